import PyProof.Rows.All
import Wide.All
import OpenK.AllK
import Wide.FinOn
import PySem.Challenge.RW_pactloom_k23_judging_papers
import HandS.ForMost
import HandS.IsInst
import HandS.TupAny
import HandS.StrMore
import HandS.Codes
import HandS.Dict
import HandS.More
import HandS.Text
import HandS.FStr
import HandS.Exc
import HandS.Sort
import HandS.Zip0
import HandS.NoneIn
import HandS.List
import HandS.Conv
import HandS.Keys
import KE.KSortTupG
import HandS.WordsExc
import HandS.ExcInit
import HandS.ExcField
import HandS.TryOnly
import KE.KExcIs
import HandS.ExcIs
import HandS.HotCalls
import HandS.Deep
import HandS.Small
import HandS.DictComp
import PyProof.ExcBaseAll.ValueError
import HandS.Star
import HandS.Zip
import KE.KUnpackStar
import HandS.SetTxt0
import HandS.SetFor
import HandS.Strs
set_option Elab.async false
set_option linter.all false
set_option maxRecDepth 100000
set_option maxHeartbeats 4000000
/-! Ab: readings over data instead of heaps: values that never change are data (PyData), what changes are cells by their number. -/
namespace Ab
open PySem L2

inductive AV where
  | d (x : PyData)
  | c (k : Nat)
  | r (v : V)

inductive Cell where
  | dead
  /-- a list of data; a list, a tuple of any things -/
  | ld (xs : List PyData)
  | lst (xs : List AV)
  | tup (xs : List AV)
  | dK (kvs : List (Key × PyData))
  | dT (kvs : List (List Key × PyData))
  /-- a dict of any things -/
  | dA (kvs : List (Key × AV))
  /-- any other object, without references -/
  | ho (o : Addr → HO)
  /-- a dict while a loop walks it -/
  | fk (od : Obj) (ws : List (Key × V)) (kvs : List (Key × PyData))
  | ins (C : Addr) (fs : List (Str × AV))
  /-- any other object, by what is true of it and of the data -/
  | xo (φ : PySem.W.Frag → Hp → Addr → HO → Prop)

abbrev AD := List (Option AV)
abbrev AK := List Cell
abbrev AR := AV → AK → Prop
abbrev AE := AD → AK → AR → Prop
abbrev AT := AD → AK → (Bool → AK → Prop) → Prop
abbrev AA := AD → AK → (List AV → AK → Prop) → Prop

mutual
theorem dp_up {K : PySem.W.Frag} {B B' : Hp} (s : Same B B') : ∀ (d : PyData) (v : V), Dp K B v d → Dp K B' v d
  | .none, _, h => by cases h; exact .non
  | .bool b, _, h => by cases h; exact .bl b
  | .int i, _, h => by cases h; exact .int i
  | .str x, _, h => by cases h; exact .str x
  | .list ds, _, h => by
    cases h with
    | lst hs ha => exact .lst (s.seq hs) (dpa_up s ds _ ha)
  | .tuple ds, _, h => by
    cases h with
    | tup hs ha =>
      refine .tup ?_ (dpa_up s ds _ ha)
      rcases hs with (h | ⟨o, h⟩) | h
      · exact .inl (.inl (s _ _ h))
      · exact .inl (.inr ⟨o, s _ _ h⟩)
      · exact .inr h
  | .dict _, _, h => by cases h
theorem dpa_up {K : PySem.W.Frag} {B B' : Hp} (s : Same B B') : ∀ (ds : List PyData) (vs : List V), DpAll K B vs ds → DpAll K B' vs ds
  | [], _, h => by cases h; exact .nil
  | d :: ds, _, h => by
    cases h with
    | cons h1 h2 => exact .cons (dp_up s d _ h1) (dpa_up s ds _ h2)
end

variable {K : PySem.W.Frag} {B B' B2 H H' H2 : Hp} {ρ ρ' ρ2 : List Addr} {κ κ' : AK} {δ : AD} {σ : L2.St} {p : Addr} {k : Nat} {v x y z : V} {a b c : AV}

def Rep (K : PySem.W.Frag) (B : Hp) (ρ : List Addr) : AV → V → Prop
  | .d x, v => Dp K B v x
  | .c k, v => ∃ p, ρ[k]? = some p ∧ v = .ref p
  | .r u, v => v = u
abbrev Reps (K : PySem.W.Frag) (B : Hp) (ρ : List Addr) : List AV → List V → Prop := Paired (Rep K B ρ)
/-- entries with data -/
def DpKs {κ : Type} (K : PySem.W.Frag) (B : Hp) : List (κ × PyData) → List (κ × V) → Prop := Paired fun p q => p.1 = q.1 ∧ Dp K B q.2 p.2
theorem DpKs.up {κ : Type} (u : Same B B') {as : List (κ × PyData)} {vs : List (κ × V)} (h : DpKs K B as vs) : DpKs K B' as vs := Paired.mapP h fun _ _ r => ⟨r.1, dp_up u _ _ r.2⟩
def RepKs {κ : Type} (K : PySem.W.Frag) (B : Hp) (ρ : List Addr) : List (κ × AV) → List (κ × V) → Prop := Paired fun p q => p.1 = q.1 ∧ Rep K B ρ p.2 q.2

/-- a tuple -/
def IsT (o : HO) : Prop := ∃ ws, o = .tup ws
/-- from (B, ρ, H) to (B', ρ', H'): data stays data, cells keep their places, what is neither stays as it was -/
structure Up (B : Hp) (ρ : List Addr) (H : Hp) (B' : Hp) (ρ' : List Addr) (H' : Hp) : Prop where
  s : Same B B'
  p : ∀ (i : Nat) (a : Addr), ρ[i]? = some a → ρ'[i]? = some a
  f : ∀ p o, H p = some o → (B p = none ∨ IsT o) → p ∉ ρ → H' p = some o ∧ (B' p = none ∨ IsT o) ∧ p ∉ ρ'
theorem Up.refl : Up B ρ H B ρ H := ⟨Same.refl B, fun _ _ h => h, fun _ _ h1 h2 h3 => ⟨h1, h2, h3⟩⟩
theorem Up.trans (a : Up B ρ H B' ρ' H') (b : Up B' ρ' H' B2 ρ2 H2) : Up B ρ H B2 ρ2 H2 := ⟨a.s.trans b.s, fun i x h => b.p i x (a.p i x h), fun p o h1 h2 h3 => let ⟨e1, e2, e3⟩ := a.f p o h1 h2 h3; b.f p o e1 e2 e3⟩
/-- the same of the first n cells alone -/
structure UpN (n : Nat) (B : Hp) (ρ : List Addr) (H : Hp) (B' : Hp) (ρ' : List Addr) (H' : Hp) : Prop where
  s : Same B B'
  p : ∀ (i : Nat) (a : Addr), i < n → ρ[i]? = some a → ρ'[i]? = some a
  f : ∀ p o, H p = some o → (B p = none ∨ IsT o) → p ∉ ρ → H' p = some o ∧ (B' p = none ∨ IsT o) ∧ p ∉ ρ'
theorem Up.n {n : Nat} (a : Up B ρ H B' ρ' H') : UpN n B ρ H B' ρ' H' := ⟨a.s, fun i x _ h => a.p i x h, a.f⟩
theorem UpN.refl {n : Nat} : UpN n B ρ H B ρ H := Up.refl.n
theorem UpN.trans {n : Nat} (a : UpN n B ρ H B' ρ' H') (b : UpN n B' ρ' H' B2 ρ2 H2) : UpN n B ρ H B2 ρ2 H2 := ⟨a.s.trans b.s, fun i x hi h => b.p i x hi (a.p i x hi h), fun p o h1 h2 h3 => let ⟨e1, e2, e3⟩ := a.f p o h1 h2 h3; b.f p o e1 e2 e3⟩
theorem UpN.full {n : Nat} (a : UpN n B ρ H B' ρ' H') (h : ρ.length ≤ n) : Up B ρ H B' ρ' H' := ⟨a.s, fun i x e => a.p i x (Nat.lt_of_lt_of_le (List.getElem?_eq_some_iff.mp e).1 h) e, a.f⟩
/-- data and cells alone -/
structure Ug (B : Hp) (ρ : List Addr) (B' : Hp) (ρ' : List Addr) : Prop where
  s : Same B B'
  p : ∀ (i : Nat) (a : Addr), ρ[i]? = some a → ρ'[i]? = some a
theorem Ug.refl : Ug B ρ B ρ := ⟨Same.refl B, fun _ _ h => h⟩
theorem Up.g (u : Up B ρ H B' ρ' H') : Ug B ρ B' ρ' := ⟨u.s, u.p⟩
theorem Rep.up (u : Ug B ρ B' ρ') : ∀ {a : AV} {v : V}, Rep K B ρ a v → Rep K B' ρ' a v
  | .d x, _, h => dp_up u.s x _ h
  | .c k, _, ⟨p, h, e⟩ => ⟨p, u.p _ _ h, e⟩
  | .r _, _, h => h
theorem Reps.up (u : Ug B ρ B' ρ') {as : List AV} {vs : List V} (h : Reps K B ρ as vs) : Reps K B' ρ' as vs := Paired.mapP h fun _ _ r => r.up u
theorem RepKs.up {κ : Type} (u : Ug B ρ B' ρ') {as : List (κ × AV)} {vs : List (κ × V)} (h : RepKs K B ρ as vs) : RepKs K B' ρ' as vs := Paired.mapP h fun _ _ r => ⟨r.1, r.2.up u⟩

def CellOk (K : PySem.W.Frag) (B : Hp) (ρ : List Addr) (H : Hp) (p : Addr) : Cell → Prop
  | .dead => H p ≠ none
  | .ld xs => B p = none ∧ ∃ vs, DpAll K B vs xs ∧ H p = some (.lst vs)
  | .lst xs => B p = none ∧ ∃ vs, Reps K B ρ xs vs ∧ H p = some (.lst vs)
  | .tup xs => ∃ vs, Reps K B ρ xs vs ∧ H p = some (.tup vs)
  | .dK kvs => B p = none ∧ ∃ ws, DpKs K B kvs ws ∧ H p = some (.dK ws)
  | .dT kvs => B p = none ∧ ∃ ws, DpKs K B kvs ws ∧ H p = some (.dT ws)
  | .dA kvs => B p = none ∧ ∃ ws, RepKs K B ρ kvs ws ∧ H p = some (.dK ws)
  | .ho o => B p = none ∧ (∀ ws, o p ≠ .tup ws) ∧ H p = some (o p)
  | .xo φ => B p = none ∧ ∃ o, (∀ ws, o ≠ .tup ws) ∧ H p = some o ∧ ∀ B', Same B B' → φ K B' p o
  | .fk od ws kvs => B p = none ∧ DpKs K B kvs ws ∧ H p = some (.frz od (.dK ws))
  | .ins C fs => B p = none ∧ ∃ dx ws, RepKs K B ρ fs ws ∧ H p = some (.ins C dx ws)
theorem CellOk.nn {cl : Cell} (h : CellOk K B ρ H p cl) : H p ≠ none := by
  cases cl with
  | dead => exact h
  | ld xs => obtain ⟨_, _, _, e⟩ := h; rw [e]; simp
  | lst xs => obtain ⟨_, _, _, e⟩ := h; rw [e]; simp
  | tup xs => obtain ⟨_, _, e⟩ := h; rw [e]; simp
  | dK xs => obtain ⟨_, _, _, e⟩ := h; rw [e]; simp
  | dT xs => obtain ⟨_, _, _, e⟩ := h; rw [e]; simp
  | dA xs => obtain ⟨_, _, _, e⟩ := h; rw [e]; simp
  | ho o => obtain ⟨_, _, e⟩ := h; rw [e]; simp
  | xo φ => obtain ⟨_, _, _, e, _⟩ := h; rw [e]; simp
  | fk od ws kvs => obtain ⟨_, _, e⟩ := h; rw [e]; simp
  | ins C xs => obtain ⟨_, _, _, _, e⟩ := h; rw [e]; simp
/-- the cell stays: its own object, and it is not in the base -/
theorem CellOk.up {cl : Cell} (u : Ug B ρ B' ρ') (h : CellOk K B ρ H p cl) (hb : B p = none → B' p = none ∨ ∃ ws, H p = some (.tup ws)) (hh : ∀ o, H p = some o → H' p = some o) : CellOk K B' ρ' H' p cl := by
  cases cl with
  | dead =>
    show H' p ≠ none
    cases e : H p with
    | none => exact absurd e h
    | some o => rw [hh o e]; simp
  | ld xs => obtain ⟨n, vs, r, e⟩ := h; exact ⟨(hb n).elim id fun ⟨ws, z⟩ => (by rw [e] at z; cases z), vs, dpa_up u.s _ _ r, hh _ e⟩
  | lst xs => obtain ⟨n, vs, r, e⟩ := h; exact ⟨(hb n).elim id fun ⟨ws, z⟩ => (by rw [e] at z; cases z), vs, Reps.up u r, hh _ e⟩
  | tup xs => obtain ⟨vs, r, e⟩ := h; exact ⟨vs, Reps.up u r, hh _ e⟩
  | dK xs => obtain ⟨n, vs, r, e⟩ := h; exact ⟨(hb n).elim id fun ⟨ws, z⟩ => (by rw [e] at z; cases z), vs, DpKs.up u.s r, hh _ e⟩
  | dT xs => obtain ⟨n, vs, r, e⟩ := h; exact ⟨(hb n).elim id fun ⟨ws, z⟩ => (by rw [e] at z; cases z), vs, DpKs.up u.s r, hh _ e⟩
  | dA xs => obtain ⟨n, vs, r, e⟩ := h; exact ⟨(hb n).elim id fun ⟨ws, z⟩ => (by rw [e] at z; cases z), vs, RepKs.up u r, hh _ e⟩
  | ho o => obtain ⟨n, nt, e⟩ := h; exact ⟨(hb n).elim id fun ⟨ws, z⟩ => (by rw [e] at z; exact absurd (Option.some.inj z) (nt ws)), nt, hh _ e⟩
  | xo φ => obtain ⟨n, o, nt, e, r⟩ := h; exact ⟨(hb n).elim id fun ⟨ws, z⟩ => (by rw [e] at z; exact absurd (Option.some.inj z) (nt ws)), o, nt, hh _ e, fun B2 s2 => r B2 (u.s.trans s2)⟩
  | fk od vs kvs => obtain ⟨n, r, e⟩ := h; exact ⟨(hb n).elim id fun ⟨ws, z⟩ => (by rw [e] at z; cases z), DpKs.up u.s r, hh _ e⟩
  | ins C xs => obtain ⟨n, dx, vs, r, e⟩ := h; exact ⟨(hb n).elim id fun ⟨ws, z⟩ => (by rw [e] at z; cases z), dx, vs, RepKs.up u r, hh _ e⟩

/-- what is written, and a predicate of states that every later state keeps -/
structure Frg where
  K : PySem.W.Frag
  n : Nat
  Z : Hp → List Addr → Hp → Prop
  up : ∀ B ρ H B' ρ' H', UpN n B ρ H B' ρ' H' → Z B ρ H → Z B' ρ' H'
instance : CoeOut Frg PySem.W.Frag := ⟨Frg.K⟩
abbrev Frg.of (K : PySem.W.Frag) : Frg := ⟨K, 0, fun _ _ _ => True, fun _ _ _ _ _ _ _ _ => True.intro⟩
variable {K : Frg}
structure G (K : Frg) (B : Hp) (ρ : List Addr) (κ : AK) (H : Hp) : Prop where
  ex : Same B H
  len : ρ.length = κ.length
  inj : ∀ (i j : Nat) (p : Addr), ρ[i]? = some p → ρ[j]? = some p → i = j
  at' : ∀ (k : Nat) (p : Addr) (c : Cell), ρ[k]? = some p → κ[k]? = some c → CellOk K B ρ H p c
  z : K.Z B ρ H
structure S (K : PySem.W.Frag) (B : Hp) (ρ : List Addr) (δ : AD) (σ : L2.St) : Prop where
  len : δ.length = σ.length
  at' : ∀ (i : Nat) (a : AV), δ[i]? = some (some a) → ∃ v, σ[i]? = some (some v) ∧ Rep K B ρ a v
theorem S.up (u : Ug B ρ B' ρ') (s : S K B ρ δ σ) : S K B' ρ' δ σ := ⟨s.len, fun i a h => let ⟨v, e, r⟩ := s.at' i a h; ⟨v, e, r.up u⟩⟩
theorem S.set {i : Nat} (s : S K B ρ δ σ) (r : Rep K B ρ a v) : S K B ρ (δ.set i (some a)) (σ.set i (some v)) := by
  refine ⟨by rw [List.length_set, List.length_set]; exact s.len, fun j b h => ?_⟩
  by_cases e : i = j
  · subst e
    have hl : i < δ.length := by
      have := (List.getElem?_eq_some_iff.mp h).1
      rw [List.length_set] at this
      exact this
    rw [List.getElem?_set_self hl] at h
    cases h
    exact ⟨v, List.getElem?_set_self (s.len ▸ hl), r⟩
  · rw [List.getElem?_set_ne e] at h
    obtain ⟨w, e2, r2⟩ := s.at' j b h
    exact ⟨w, by rw [List.getElem?_set_ne e]; exact e2, r2⟩
theorem S.clr {i : Nat} (s : S K B ρ δ σ) {u : Option V} : S K B ρ (δ.set i none) (σ.set i u) := by
  refine ⟨by rw [List.length_set, List.length_set]; exact s.len, fun j b h => ?_⟩
  by_cases e : i = j
  · subst e
    have hl : i < δ.length := by
      have := (List.getElem?_eq_some_iff.mp h).1
      rw [List.length_set] at this
      exact this
    rw [List.getElem?_set_self hl] at h
    cases h
  · rw [List.getElem?_set_ne e] at h
    obtain ⟨w, e2, r2⟩ := s.at' j b h
    exact ⟨w, by rw [List.getElem?_set_ne e]; exact e2, r2⟩

theorem get_app {α : Type} {l : List α} {m : List α} {i : Nat} {a : α} (h : l[i]? = some a) : (l ++ m)[i]? = some a := by
  rw [List.getElem?_append_left (List.getElem?_eq_some_iff.mp h).1]; exact h
theorem get_snoc {α : Type} {l : List α} {i : Nat} {x a : α} (h : (l ++ [x])[i]? = some a) : (i < l.length ∧ l[i]? = some a) ∨ (i = l.length ∧ a = x) := by
  by_cases hl : i < l.length
  · rw [List.getElem?_append_left hl] at h; exact .inl ⟨hl, h⟩
  · have hb := (List.getElem?_eq_some_iff.mp h).1
    rw [List.length_append] at hb
    have e : i = l.length := by
      have : ([x] : List α).length = 1 := rfl
      omega
    subst e
    rw [List.getElem?_append_right (Nat.le_refl _)] at h
    simp at h
    exact .inr ⟨rfl, h.symm⟩
theorem up_snoc : Ug B ρ B (ρ ++ [p]) := ⟨Same.refl B, fun _ _ h => get_app h⟩
theorem G.fresh (g : G K B ρ κ H) (n : H p = none) : B p = none := g.ex.free n
theorem G.nin (g : G K B ρ κ H) (n : H p = none) {i : Nat} {q : Addr} (h : ρ[i]? = some q) : q ≠ p := fun e => by
  subst e
  have hi : i < κ.length := by rw [← g.len]; exact (List.getElem?_eq_some_iff.mp h).1
  exact (g.at' i q _ h (List.getElem?_eq_getElem hi)).nn n
theorem same_upd {o : HO} (h : H p = none) : Same H (upd H p o) := fun b x e => by
  rw [upd_ne (ne_of_none e h)]; exact e
theorem G.allocUp (g : G K B ρ κ H) (n : H p = none) {o : HO} : Up B ρ H B (ρ ++ [p]) (upd H p o) := ⟨Same.refl B, fun _ _ h => get_app h, fun q o' h1 h2 h3 => by
  have hq := ne_of_none h1 n
  rw [upd_ne hq]
  refine ⟨h1, h2, fun z => ?_⟩
  rcases List.mem_append.mp z with z | z
  · exact h3 z
  · exact hq (by simpa using z)⟩
/-- a new cell -/
theorem G.alloc (g : G K B ρ κ H) (n : H p = none) {o : HO} {cl : Cell} (hc : CellOk K B ρ (upd H p o) p cl) : G K B (ρ ++ [p]) (κ ++ [cl]) (upd H p o) := by
  refine ⟨fun b u e => same_upd n b u (g.ex b u e), by rw [List.length_append, List.length_append, g.len] <;> rfl, fun i j q h1 h2 => ?_, fun i q c h1 h2 => ?_, K.up _ _ _ _ _ _ (g.allocUp n).n g.z⟩
  · rcases get_snoc h1 with ⟨l1, e1⟩ | ⟨l1, e1⟩
    · rcases get_snoc h2 with ⟨l2, e2⟩ | ⟨l2, e2⟩
      · exact g.inj i j q e1 e2
      · subst e2; exact absurd rfl (g.nin n e1)
    · rcases get_snoc h2 with ⟨l2, e2⟩ | ⟨l2, e2⟩
      · subst e1; exact absurd rfl (g.nin n e2)
      · rw [l1, l2]
  · rcases get_snoc h1 with ⟨l1, e1⟩ | ⟨l1, e1⟩
    · rw [List.getElem?_append_left (g.len ▸ l1)] at h2
      have hq := g.nin n e1
      exact (g.at' i q c e1 h2).up up_snoc Or.inl fun o' e => by rw [upd_ne hq]; exact e
    · subst e1
      rcases get_snoc h2 with ⟨l2, e2⟩ | ⟨l2, e2⟩
      · rw [l1, g.len] at l2; exact absurd l2 (Nat.lt_irrefl _)
      · subst e2; exact hc.up up_snoc Or.inl fun _ e => e
theorem rep_new (g : G K B ρ κ H) : Rep K B (ρ ++ [p]) (.c κ.length) (.ref p) := ⟨p, by rw [← g.len]; simp, rfl⟩
/-- new data in the base -/
theorem G.data (g : G K B ρ κ H) (n : H p = none) {o : HO} : Up B ρ H (upd B p o) ρ (upd H p o) ∧ G K (upd B p o) ρ κ (upd H p o) := by
  have nb := g.fresh n
  have u : Up B ρ H (upd B p o) ρ (upd H p o) := ⟨same_upd nb, fun _ _ h => h, fun q o' h1 h2 h3 => by
    have hq := ne_of_none h1 n
    rw [upd_ne hq, upd_ne hq]; exact ⟨h1, h2, h3⟩⟩
  refine ⟨u, ⟨fun b x e => ?_, g.len, g.inj, fun i q c h1 h2 => ?_, K.up _ _ _ _ _ _ u.n g.z⟩⟩
  · by_cases hb : b = p
    · subst hb; rw [upd_same] at e ⊢; exact e
    · rw [upd_ne hb] at e ⊢; exact g.ex b x e
  · have hq := g.nin n h1
    exact (g.at' i q c h1 h2).up u.g (fun z => .inl (by rw [upd_ne hq]; exact z)) fun o' e => by rw [upd_ne hq]; exact e
theorem mem_of_get {α : Type} {l : List α} {i : Nat} {a : α} (h : l[i]? = some a) : a ∈ l := List.mem_of_getElem? h
theorem G.writeUp (hp : ρ[k]? = some p) {o : HO} : Up B ρ H B ρ (upd H p o) := ⟨Same.refl B, fun _ _ h => h, fun q o' h1 h2 h3 => by
  have hq : q ≠ p := fun e => h3 (e ▸ mem_of_get hp)
  rw [upd_ne hq]; exact ⟨h1, h2, h3⟩⟩
/-- a cell changes -/
theorem G.write (g : G K B ρ κ H) (hp : ρ[k]? = some p) (hb : B p = none) {o : HO} {cl : Cell} (hc : CellOk K B ρ (upd H p o) p cl) : G K B ρ (κ.set k cl) (upd H p o) := by
  refine ⟨fun b x e => ?_, by rw [List.length_set]; exact g.len, g.inj, fun i q c h1 h2 => ?_, K.up _ _ _ _ _ _ (G.writeUp hp).n g.z⟩
  · have : b ≠ p := ne_of_none e hb
    rw [upd_ne this]; exact g.ex b x e
  · by_cases e : k = i
    · subst e
      rw [hp] at h1; cases h1
      have hl : k < κ.length := by
        have := (List.getElem?_eq_some_iff.mp h2).1
        rw [List.length_set] at this; exact this
      rw [List.getElem?_set_self hl] at h2
      cases h2; exact hc
    · rw [List.getElem?_set_ne e] at h2
      have hq : q ≠ p := fun z => by subst z; exact e (g.inj k i q hp h1)
      exact (g.at' i q c h1 h2).up Ug.refl Or.inl fun o' eo => by rw [upd_ne hq]; exact eo
theorem G.cell (g : G K B ρ κ H) {cl : Cell} (h : κ[k]? = some cl) : ∃ p, ρ[k]? = some p ∧ CellOk K B ρ H p cl := by
  have hl : k < ρ.length := by rw [g.len]; exact (List.getElem?_eq_some_iff.mp h).1
  exact ⟨_, List.getElem?_eq_getElem hl, g.at' k _ cl (List.getElem?_eq_getElem hl) h⟩

theorem Reps.of_all {K : PySem.W.Frag} : ∀ {ds : List PyData} {vs : List V}, Reps K B ρ (ds.map .d) vs → DpAll K B vs ds
  | [], _, h => by cases h; exact .nil
  | d :: ds, _, h => by
    cases h with
    | cons h1 h2 => exact .cons h1 (Reps.of_all h2)
theorem Reps.all {K : PySem.W.Frag} : ∀ {ds : List PyData} {vs : List V}, DpAll K B vs ds → Reps K B ρ (ds.map .d) vs
  | [], _, h => by cases h; exact .nil
  | d :: ds, _, h => by
    cases h with
    | cons h1 h2 => exact .cons h1 (Reps.all h2)
theorem dpa_len {K : PySem.W.Frag} : ∀ {ds : List PyData} {vs : List V}, DpAll K B vs ds → vs.length = ds.length
  | [], _, h => by cases h; rfl
  | d :: ds, _, h => by
    cases h with
    | cons h1 h2 => rw [List.length_cons, List.length_cons, dpa_len h2]
theorem dpa_get {K : PySem.W.Frag} : ∀ {ds : List PyData} {vs : List V} {i : Nat} {d : PyData}, DpAll K B vs ds → ds[i]? = some d → ∃ v, vs[i]? = some v ∧ Dp K B v d
  | [], _, _, _, _, e => by simp at e
  | d :: ds, _, i, d', h, e => by
    cases h with
    | cons h1 h2 =>
      cases i with
      | zero => simp at e; subst e; exact ⟨_, rfl, h1⟩
      | succ i =>
        obtain ⟨v, e1, r⟩ := dpa_get h2 (by simpa using e)
        exact ⟨v, by simpa using e1, r⟩
theorem Reps.get {K : PySem.W.Frag} : ∀ {as : List AV} {vs : List V} {i : Nat} {a : AV}, Reps K B ρ as vs → as[i]? = some a → ∃ v, vs[i]? = some v ∧ Rep K B ρ a v
  | _, _, _, _, .nil, e => by simp at e
  | _, _, 0, _, .cons r _, e => by simp at e; subst e; exact ⟨_, rfl, r⟩
  | _, _, i + 1, x, .cons _ t, e => by
    obtain ⟨u, h1, h2⟩ := Reps.get (i := i) (a := x) t (by simpa using e)
    exact ⟨u, by simpa using h1, h2⟩
theorem Reps.snoc {K : PySem.W.Frag} {as : List AV} {vs : List V} (h : Reps K B ρ as vs) (r : Rep K B ρ a v) : Reps K B ρ (as ++ [a]) (vs ++ [v]) := Paired.snoc h r
theorem Reps.len {K : PySem.W.Frag} {as : List AV} {vs : List V} (h : Reps K B ρ as vs) : as.length = vs.length := Paired.length h
theorem Reps.set {K : PySem.W.Frag} : ∀ {as : List AV} {vs : List V} (i : Nat), Reps K B ρ as vs → Rep K B ρ a v → Reps K B ρ (as.set i a) (vs.set i v)
  | _, _, _, .nil, _ => .nil
  | _, _, 0, .cons _ t, r => .cons r t
  | _, _, i + 1, .cons q t, r => .cons q (Reps.set i t r)

/-! ### readings over data -/
/-- what is wanted behind -/
abbrev Nx (K : Frg) (B : Hp) (ρ : List Addr) (H : Hp) (R : AR) (Q : VK) : Prop := ∀ B' ρ' κ' H' a v, Up B ρ H B' ρ' H' → G K B' ρ' κ' H' → Rep K B' ρ' a v → R a κ' → Q v H'
theorem Nx.at0 {R : AR} {Q : VK} (q : Nx K B ρ H R Q) (g : G K B ρ κ H) (r : Rep K B ρ a v) (h : R a κ) : Q v H := q _ _ _ _ _ _ Up.refl g r h
theorem Nx.later {R : AR} {Q : VK} (q : Nx K B ρ H R Q) (u : Up B ρ H B' ρ' H') : Nx K B' ρ' H' R Q := fun _ _ _ _ _ _ u2 g r h => q _ _ _ _ _ _ (u.trans u2) g r h
def SE (K : Frg) (t : TE) (e : AE) : Prop := ∀ B ρ δ κ σ H (R : AR) (Q : VK), S K B ρ δ σ → G K B ρ κ H → e δ κ R → Nx K B ρ H R Q → t σ H Q
def ST (K : Frg) (t : TT) (e : AT) : Prop := ∀ B ρ δ κ σ H (R : Bool → AK → Prop) (Q : Bool → Hp → Prop), S K B ρ δ σ → G K B ρ κ H → e δ κ R →
  (∀ B' ρ' κ' H' b, Up B ρ H B' ρ' H' → G K B' ρ' κ' H' → R b κ' → Q b H') → t σ H Q
def SA (K : Frg) (t : TA) (e : AA) : Prop := ∀ B ρ δ κ σ H (R : List AV → AK → Prop) (Q : List V → Hp → Prop), S K B ρ δ σ → G K B ρ κ H → e δ κ R →
  (∀ B' ρ' κ' H' as vs, Up B ρ H B' ρ' H' → G K B' ρ' κ' H' → Reps K B' ρ' as vs → R as κ' → Q vs H') → t σ H Q
structure PEa (K : Frg) (X : Cx) (e : Expr) (t : TE) (f : AE) : Prop where
  pe : PE X e t
  sd : SE K t f
structure PTa (K : Frg) (X : Cx) (e : Expr) (t : TT) (f : AT) : Prop where
  pt : PT X e t
  sd : ST K t f
structure PWa (K : Frg) (X : Cx) (e : Expr) (t : TT) (f : AT) : Prop where
  pw : PW X e t
  sd : ST K t f
theorem PWa.pt {K : Frg} {X : Cx} {e : Expr} {t : TT} {f : AT} (h : PWa K X e t f) : PTa K X e t f := ⟨h.pw.pt, h.sd⟩
structure PAa (K : Frg) (X : Cx) (es : List Expr) (t : TA) (f : AA) : Prop where
  pa : PA X es t
  sd : SA K t f

/-! ### names, constants -/
def aVar (i : Nat) : AE := fun δ κ R => match δ[i]? with
  | some (some a) => R a κ
  | _ => False
def aC (a : AV) : AE := fun _ κ R => R a κ
theorem se_var {i : Nat} : SE K (tVar i) (aVar i) := fun B ρ δ κ σ H R Q s g h q => by
  unfold aVar at h
  split at h
  · rename_i a e
    obtain ⟨v, e1, r⟩ := s.at' i a e
    exact ⟨v, e1, q.at0 g r h⟩
  · exact h.elim
theorem se_c {v : V} {a : AV} (hr : ∀ B ρ, Rep K B ρ a v) : SE K (tC v) (aC a) := fun B ρ δ κ σ H R Q s g h q => q.at0 g (hr B ρ) h
section
variable {X : Cx} {e e2 : Expr} {t u : TE} {f f2 : AE} {pos : Pos}
theorem av (i : Nat) {x : Str} {pos : Pos} (hN : X.N[i]? = some x := by rfl) (hv : Vis X.env.scope x := by first | exact Or.inl rfl | exact Or.inr (Or.inl rfl) | exact Or.inr (Or.inr rfl)) (hd : (x == ("__debug__" : Str)) = false := by decide)
    (hcd : (x == ("__classdict__" : Str)) = false := by decide) : PEa K X (.Name x pos) (tVar i) (aVar i) := ⟨pv i hN hv hd hcd, se_var⟩
theorem ea_int {i : Int} {q : Pos} {j} : PEa K X (.Constant (.int i) j q) (tC (.int i)) (aC (.d (.int i))) := ⟨pe_int, se_c fun _ _ => .int i⟩
theorem ea_str {x : Str} {q : Pos} {j} : PEa K X (.Constant (.str x) j q) (tC (.str x)) (aC (.d (.str x))) := ⟨pe_str, se_c fun _ _ => .str x⟩
theorem ea_bl {x : Bool} {q : Pos} {j} : PEa K X (.Constant (.bool x) j q) (tC (.bl x)) (aC (.d (.bool x))) := ⟨pe_bl, se_c fun _ _ => .bl x⟩
theorem ea_non {q : Pos} {j} : PEa K X (.Constant .none j q) (tC .non) (aC (.d .none)) := ⟨pe_non, se_c fun _ _ => .non⟩
/-- a module's constant -/
theorem ea_glob {x : Str} {v : V} {u : Value} {d : PyData} {pos : Pos} (hg : Gl X x) (hm : X.mg x = some u) (r : RelV v u) (hd : ∀ B, Dp K B v d) (hdb : (x == ("__debug__" : Str)) = false := by decide) : PEa K X (.Name x pos) (tC v) (aC (.d d)) := ⟨pe_glob hg hm r hdb, se_c fun B _ => hd B⟩
/-- a built-in class as a value -/
theorem ea_ty {x : Str} {T : String} {pos : Pos} (hg : Gl X x) (hm : X.mg x = none) (hv : bootBuiltins x = some (.type T)) (hn : x ≠ "__name__" := by decide) (hdb : (x == ("__debug__" : Str)) = false := by decide) : PEa K X (.Name x pos) (tC (.ty T)) (aC (.r (.ty T))) := ⟨pe_bltn hg hm hv rfl hn hdb, se_c fun _ _ => rfl⟩
end
end Ab

namespace Ab
open PySem L2
variable {K : Frg} {B H : Hp} {ρ : List Addr} {κ : AK}
theorem G.plain (g : G K B ρ κ H) : G (Frg.of K.K) B ρ κ H := ⟨g.ex, g.len, g.inj, g.at', True.intro⟩
theorem G.zone (g : G (Frg.of K.K) B ρ κ H) (z : K.Z B ρ H) : G K B ρ κ H := ⟨g.ex, g.len, g.inj, g.at', z⟩
end Ab
set_option Elab.async false
set_option linter.all false
set_option maxRecDepth 100000
set_option maxHeartbeats 4000000
/-! Ab2: operators, comparisons, subscripts, built-in calls, methods -/
namespace Ab
open PySem L2
variable {K : Frg} {B B' B2 H H' H2 : Hp} {ρ ρ' ρ2 : List Addr} {κ κ' : AK} {δ : AD} {σ : L2.St} {p : Addr} {k : Nat} {v x y z : V} {a b c : AV}

abbrev AO := AV → AV → AK → AR → Prop
def SR (K : Frg) (r : R2) (f : AO) : Prop := ∀ B ρ κ H x y a b (R : AR) (Q : VK), G K B ρ κ H → Rep K B ρ a x → Rep K B ρ b y → f a b κ R → Nx K B ρ H R Q → r x y H Q
def SU (K : Frg) (r : V → Hp → VK → Prop) (f : AV → AK → AR → Prop) : Prop := ∀ B ρ κ H x a (R : AR) (Q : VK), G K B ρ κ H → Rep K B ρ a x → f a κ R → Nx K B ρ H R Q → r x H Q
def SL (K : Frg) (r : List V → Hp → VK → Prop) (f : List AV → AK → AR → Prop) : Prop := ∀ B ρ κ H xs as (R : AR) (Q : VK), G K B ρ κ H → Reps K B ρ as xs → f as κ R → Nx K B ρ H R Q → r xs H Q
def SM (K : Frg) (T : String) (r : V → List V → Hp → VK → Prop) (f : AV → List AV → AK → AR → Prop) : Prop := ∀ B ρ κ H x xs a as (R : AR) (Q : VK), G K B ρ κ H → Rep K B ρ a x → Reps K B ρ as xs → f a as κ R → Nx K B ρ H R Q → tyV K T x H ∧ r x xs H Q

def aOp (f : AO) (ea eb : AE) : AE := fun δ κ R => ea δ κ fun a κ1 => eb δ κ1 fun b κ2 => f a b κ2 R
def aUn (f : AV → AK → AR → Prop) (ea : AE) : AE := fun δ κ R => ea δ κ fun a κ1 => f a κ1 R
theorem se_op {r : R2} {f : AO} {ta tb : TE} {ea eb : AE} (hr : SR K r f) (ha : SE K ta ea) (hb : SE K tb eb) : SE K (tOp r ta tb) (aOp f ea eb) := fun B ρ δ κ σ H R Q s g h q =>
  ha B ρ δ κ σ H _ _ s g h fun B1 ρ1 κ1 H1 a x u1 g1 r1 h1 => hb B1 ρ1 δ κ1 σ H1 _ _ (s.up u1.g) g1 h1 fun B2 ρ2 κ2 H2 b y u2 g2 r2 h2 =>
    hr B2 ρ2 κ2 H2 x y a b R Q g2 (r1.up u2.g) r2 h2 fun B3 ρ3 κ3 H3 c z u3 g3 r3 h3 => q _ _ _ _ _ _ ((u1.trans u2).trans u3) g3 r3 h3
theorem se_un {r : V → Hp → VK → Prop} {f : AV → AK → AR → Prop} {ta : TE} {ea : AE} (hr : SU K r f) (ha : SE K ta ea) : SE K (tUn r ta) (aUn f ea) := fun B ρ δ κ σ H R Q s g h q =>
  ha B ρ δ κ σ H _ _ s g h fun B1 ρ1 κ1 H1 a x u1 g1 r1 h1 => hr B1 ρ1 κ1 H1 x a R Q g1 r1 h1 fun B3 ρ3 κ3 H3 c z u3 g3 r3 h3 => q _ _ _ _ _ _ (u1.trans u3) g3 r3 h3

theorem opr_or {X : Cx} {f : Value → Value → Sem Value} {r r' : R2} (h : OpR X f r) (h' : OpR X f r') : OpR X f (fun x y H Q => r x y H Q ∨ r' x y H Q) := fun pins s σ H x y v u Q I rx ry q => q.elim (h pins s σ H x y v u Q I rx ry) (h' pins s σ H x y v u Q I rx ry)
theorem callr_or {X : Cx} {f : Value} {r r' : List V → Hp → VK → Prop} (h : CallR X f r) (h' : CallR X f r') : CallR X f (fun xs H Q => r xs H Q ∨ r' xs H Q) := fun pins s σ H xs us Q I rx q => q.elim (h pins s σ H xs us Q I rx) (h' pins s σ H xs us Q I rx)

structure OpA (K : Frg) (X : Cx) (f : Value → Value → Sem Value) (r : R2) (g : AO) : Prop where
  op : OpR X f r
  sd : SR K r g
section
variable {X : Cx} {e e2 : Expr} {t u : TE} {f f2 : AE} {pos : Pos}
theorem ea_op {op : Operator} {r : R2} {g : AO} (ho : OpA K X (binaryOp op) r g) (h1 : PEa K X e t f) (h2 : PEa K X e2 u f2) : PEa K X (.BinOp e op e2 pos) (tOp r t u) (aOp g f f2) := ⟨pe_op ho.op h1.pe h2.pe, se_op ho.sd h1.sd h2.sd⟩
theorem ea_cmp {op : CmpOp} {r : R2} {g : AO} (ho : OpA K X (compareOp op) r g) (h1 : PEa K X e t f) (h2 : PEa K X e2 u f2) (hm : behindInMarks op e2 = false := by first | exact nomark _ | rfl) : PEa K X (.Compare e [op] [e2] pos) (tOp r t u) (aOp g f f2) := ⟨pe_cmpR ho.op h1.pe h2.pe hm, se_op ho.sd h1.sd h2.sd⟩
theorem ea_un {op : UnaryOp} {r : V → Hp → VK → Prop} {g : AV → AK → AR → Prop} (ho : UnR X (unaryOp op) r) (hs : SU K r g) (h1 : PEa K X e t f) : PEa K X (.UnaryOp op e pos) (tUn r t) (aUn g f) := ⟨pe_un ho h1.pe, se_un hs h1.sd⟩

/-! ### numbers, texts -/
def aAdd : AO := fun a b κ R => match a, b with
  | .d (.int i), .d (.int j) => R (.d (.int (i + j))) κ
  | .d (.str s), .d (.str t) => s.length + t.length ≤ sizeLine ∧ R (.d (.str (s ++ t))) κ
  | .d (.tuple xs), .d (.tuple ys) => xs.length + ys.length ≤ sizeLine ∧ R (.d (.tuple (xs ++ ys))) κ
  | _, _ => False
theorem rp_int {K : PySem.W.Frag} (i : Int) : Rep K B ρ (.d (.int i)) (.int i) := Dp.int i
theorem rp_str {K : PySem.W.Frag} (i : Str) : Rep K B ρ (.d (.str i)) (.str i) := Dp.str i
theorem rp_bl {K : PySem.W.Frag} (i : Bool) : Rep K B ρ (.d (.bool i)) (.bl i) := Dp.bl i
theorem rp_non {K : PySem.W.Frag} : Rep K B ρ (.d .none) .non := Dp.non
theorem Rep.int {K : PySem.W.Frag} {i : Int} (h : Rep K B ρ (.d (.int i)) v) : v = .int i := by cases h; rfl
theorem Rep.str {K : PySem.W.Frag} {i : Str} (h : Rep K B ρ (.d (.str i)) v) : v = .str i := by cases h; rfl
theorem Rep.bool {K : PySem.W.Frag} {i : Bool} (h : Rep K B ρ (.d (.bool i)) v) : v = .bl i := by cases h; rfl
theorem Rep.non {K : PySem.W.Frag} (h : Rep K B ρ (.d .none) v) : v = .non := by cases h; rfl
theorem Rep.list {K : PySem.W.Frag} {ds : List PyData} (h : Rep K B ρ (.d (.list ds)) v) : ∃ p xs, v = .ref p ∧ SqL K B p xs ∧ DpAll K B xs ds := by
  cases h with
  | lst hs ha => exact ⟨_, _, rfl, hs, ha⟩
theorem Rep.tuple {K : PySem.W.Frag} {ds : List PyData} (h : Rep K B ρ (.d (.tuple ds)) v) : ∃ p xs, v = .ref p ∧ SqT K B p xs ∧ DpAll K B xs ds := by
  cases h with
  | tup hs ha => exact ⟨_, _, rfl, hs, ha⟩
theorem sqt_up {K : PySem.W.Frag} (s : Same B B') {xs : List V} (h : SqT K B p xs) : SqT K B' p xs := by
  rcases h with (h | ⟨o, h⟩) | h
  · exact .inl (.inl (s _ _ h))
  · exact .inl (.inr ⟨o, s _ _ h⟩)
  · exact .inr h
theorem dpa_app {K : PySem.W.Frag} : ∀ {ds es : List PyData} {vs us : List V}, DpAll K B vs ds → DpAll K B us es → DpAll K B (vs ++ us) (ds ++ es)
  | [], _, _, _, h, h2 => by cases h; exact h2
  | d :: ds, _, _, _, h, h2 => by
    cases h with
    | cons a b => exact .cons a (dpa_app b h2)
theorem of_listG (g : G K B ρ κ H) {ds : List PyData} (h : Rep K B ρ (.d (.list ds)) v) : ∃ p xs, v = .ref p ∧ SqL K H p xs ∧ DpAll K B xs ds := by
  obtain ⟨p, xs, e, h1, h2⟩ := h.list; exact ⟨p, xs, e, g.ex.seq h1, h2⟩
theorem of_tupG (g : G K B ρ κ H) {ds : List PyData} (h : Rep K B ρ (.d (.tuple ds)) v) : ∃ p xs, v = .ref p ∧ SqT K H p xs ∧ DpAll K B xs ds := by
  obtain ⟨p, xs, e, h1, h2⟩ := h.tuple; exact ⟨p, xs, e, sqt_up g.ex h1, h2⟩
theorem new_tup (g : G K B ρ κ H) (n : H p = none) {ds : List PyData} {vs : List V} (h : DpAll K B vs ds) : Up B ρ H (upd B p (.tup vs)) ρ (upd H p (.tup vs)) ∧ G K (upd B p (.tup vs)) ρ κ (upd H p (.tup vs)) ∧ Rep K (upd B p (.tup vs)) ρ (.d (.tuple ds)) (.ref p) := by
  obtain ⟨u, g'⟩ := g.data n (o := .tup vs)
  exact ⟨u, g', .tup (.inl (.inl upd_same)) (dpa_up u.s _ _ h)⟩
theorem new_lst (g : G K B ρ κ H) (n : H p = none) {ds : List PyData} {vs : List V} (h : DpAll K B vs ds) : Up B ρ H (upd B p (.lst vs)) ρ (upd H p (.lst vs)) ∧ G K (upd B p (.lst vs)) ρ κ (upd H p (.lst vs)) ∧ Rep K (upd B p (.lst vs)) ρ (.d (.list ds)) (.ref p) := by
  obtain ⟨u, g'⟩ := g.data n (o := .lst vs)
  exact ⟨u, g', .lst (.inl (.inl upd_same)) (dpa_up u.s _ _ h)⟩
/-- a new list of data as a cell -/
theorem new_ld (g : G K B ρ κ H) (n : H p = none) {as : List PyData} {vs : List V} (h : DpAll K B vs as) : Up B ρ H B (ρ ++ [p]) (upd H p (.lst vs)) ∧ G K B (ρ ++ [p]) (κ ++ [.ld as]) (upd H p (.lst vs)) ∧ Rep K B (ρ ++ [p]) (.c κ.length) (.ref p) :=
  ⟨g.allocUp n, g.alloc n (show CellOk K B ρ _ p (.ld as) from ⟨g.fresh n, vs, h, upd_same⟩), rep_new g⟩
/-- a new list as a cell -/
theorem new_cell (g : G K B ρ κ H) (n : H p = none) {as : List AV} {vs : List V} (h : Reps K B ρ as vs) : Up B ρ H B (ρ ++ [p]) (upd H p (.lst vs)) ∧ G K B (ρ ++ [p]) (κ ++ [.lst as]) (upd H p (.lst vs)) ∧ Rep K B (ρ ++ [p]) (.c κ.length) (.ref p) :=
  ⟨g.allocUp n, g.alloc n ⟨g.fresh n, vs, h, upd_same⟩, rep_new g⟩
theorem new_tcell (g : G K B ρ κ H) (n : H p = none) {as : List AV} {vs : List V} (h : Reps K B ρ as vs) : Up B ρ H B (ρ ++ [p]) (upd H p (.tup vs)) ∧ G K B (ρ ++ [p]) (κ ++ [.tup as]) (upd H p (.tup vs)) ∧ Rep K B (ρ ++ [p]) (.c κ.length) (.ref p) :=
  ⟨g.allocUp n, g.alloc n ⟨vs, h, upd_same⟩, rep_new g⟩
theorem ne_nil_of {K : PySem.W.Frag} {ds : List PyData} {vs : List V} (h : DpAll K B vs ds) (n : ds ≠ []) : vs ≠ [] := fun e => by
  subst e
  have := dpa_len h
  cases ds with
  | nil => exact n rfl
  | cons _ _ => simp at this


def rAddA (K : PySem.W.Frag) : R2 := fun x y H Q => rI0 (fun i j => .int (i + j)) x y H Q ∨ ((fun x y H Q => ∃ i j, x = .str i ∧ y = .str j ∧ i.length + j.length ≤ sizeLine ∧ Q (.str (i ++ j)) H) : R2) x y H Q ∨ rCatA K x y H Q
theorem oa_add (hK : X.K = K := by rfl) : OpA K X (binaryOp .Add) (rAddA K) aAdd := by
  obtain ⟨K, Kn, KZ, Ku⟩ := K
  change X.K = K at hK
  subst hK
  refine ⟨opr_or op_add (opr_or op_add_str op_catA), ?_⟩
  intro B ρ κ H x y a b R Q g rx ry h q
  unfold aAdd at h
  split at h
  · rename_i i j
    exact .inl ⟨i, j, rx.int, ry.int, q.at0 g (rp_int _) h⟩
  · rename_i s t
    exact .inr (.inl ⟨s, t, rx.str, ry.str, h.1, q.at0 g (rp_str _) h.2⟩)
  · rename_i xs ys
    obtain ⟨p, vs, rfl, s1, d1⟩ := of_tupG g rx
    obtain ⟨p', vs', rfl, s2, d2⟩ := of_tupG g ry
    have e1 := dpa_len d1
    have e2 := dpa_len d2
    obtain ⟨h1, h2⟩ : xs.length + ys.length ≤ sizeLine ∧ R (.d (.tuple (xs ++ ys))) κ := h
    refine .inr (.inr ⟨_, _, vs, vs', rfl, rfl, s1, s2, by omega, fun z => ?_, fun _ z => ?_, fun _ _ p hp => ?_⟩)
    · subst z
      cases xs with
      | nil => exact q.at0 g ry h2
      | cons _ _ => simp at e1
    · subst z
      cases ys with
      | nil => rw [List.append_nil] at h2; exact q.at0 g rx h2
      | cons _ _ => simp at e2
    · obtain ⟨u, g', r⟩ := new_tup g hp (dpa_app d1 d2)
      exact q _ _ _ _ _ _ u g' r h2
  · exact h.elim
/-- numbers in, a number out -/
def aI (C : Int → Int → Prop) (f : Int → Int → Int) : AO := fun a b κ R => match a, b with
  | .d (.int i), .d (.int j) => C i j ∧ R (.d (.int (f i j))) κ
  | _, _ => False
def aI0 (f : Int → Int → Int) : AO := fun a b κ R => match a, b with
  | .d (.int i), .d (.int j) => R (.d (.int (f i j))) κ
  | _, _ => False
theorem sr_I {C : Int → Int → Prop} {f : Int → Int → Int} : SR K (rI C fun i j => .int (f i j)) (aI C f) := by
  intro B ρ κ H x y a b R Q g rx ry h q
  unfold aI at h
  split at h
  · exact ⟨_, _, rx.int, ry.int, h.1, q.at0 g (rp_int _) h.2⟩
  · exact h.elim
theorem sr_I0 {f : Int → Int → Int} : SR K (rI0 fun i j => .int (f i j)) (aI0 f) := by
  intro B ρ κ H x y a b R Q g rx ry h q
  unfold aI0 at h
  split at h
  · exact ⟨_, _, rx.int, ry.int, q.at0 g (rp_int _) h⟩
  · exact h.elim
abbrev aSub : AO := aI0 fun i j => i - j
abbrev aMul : AO := aI CMul fun i j => i * j
abbrev aMod : AO := aI (fun _ j => 0 < j) fun i j => i % j
abbrev aDiv : AO := aI CDiv fun i j => i / j
abbrev aPow : AO := aI CPow fun i j => i ^ j.toNat
theorem oa_sub : OpA K X (binaryOp .Sub) (rI0 fun i j => .int (i - j)) aSub := ⟨op_sub, sr_I0⟩
theorem oa_mul : OpA K X (binaryOp .Mult) (rI CMul fun i j => .int (i * j)) aMul := ⟨op_mul, sr_I⟩
theorem oa_mod : OpA K X (binaryOp .Mod) (rI (fun _ j => 0 < j) fun i j => .int (i % j)) aMod := ⟨op_mod, sr_I⟩
theorem oa_div : OpA K X (binaryOp .FloorDiv) (rI CDiv fun i j => .int (i / j)) aDiv := ⟨op_fdiv, sr_I⟩
theorem oa_pow : OpA K X (binaryOp .Pow) (rI CPow fun i j => .int (i ^ j.toNat)) aPow := ⟨op_pow, sr_I⟩
def aCmpI (f : Int → Int → Bool) : AO := fun a b κ R => match a, b with
  | .d (.int i), .d (.int j) => R (.d (.bool (f i j))) κ
  | _, _ => False
theorem sr_cmpI {f : Int → Int → Bool} : SR K (rI0 fun i j => .bl (f i j)) (aCmpI f) := by
  intro B ρ κ H x y a b R Q g rx ry h q
  unfold aCmpI at h
  split at h
  · exact ⟨_, _, rx.int, ry.int, q.at0 g (rp_bl _) h⟩
  · exact h.elim
abbrev aLt : AO := aCmpI fun i j => decide (i < j)
abbrev aLe : AO := aCmpI fun i j => decide (i ≤ j)
abbrev aGt : AO := aCmpI fun i j => decide (j < i)
abbrev aGe : AO := aCmpI fun i j => decide (j ≤ i)
theorem oa_lt : OpA K X (compareOp .Lt) (rI0 fun i j => .bl (decide (i < j))) aLt := ⟨op_lt, sr_cmpI⟩
theorem oa_le : OpA K X (compareOp .LtE) (rI0 fun i j => .bl (decide (i ≤ j))) aLe := ⟨op_le, sr_cmpI⟩
theorem oa_gt : OpA K X (compareOp .Gt) (rI0 fun i j => .bl (decide (j < i))) aGt := ⟨op_gt, sr_cmpI⟩
theorem oa_ge : OpA K X (compareOp .GtE) (rI0 fun i j => .bl (decide (j ≤ i))) aGe := ⟨op_ge, sr_cmpI⟩

/-! ### == -/
def aEqB (n : Bool → Bool) : AO := fun a b κ R => match a, b with
  | .d (.int i), .d (.int j) => R (.d (.bool (n (decide (i = j))))) κ
  | .d (.str i), .d (.str j) => R (.d (.bool (n (decide (i = j))))) κ
  | .d (.bool i), .d (.bool j) => R (.d (.bool (n (decide (i = j))))) κ
  | .d x, .d y => SeqAt.shaped x = true ∧ SeqAt.shaped y = true ∧ R (.d (.bool (n (PyData.eqv x y)))) κ
  | _, _ => False
abbrev aEq : AO := aEqB id
abbrev aNe : AO := aEqB not
theorem dec_inj {α β : Type} [DecidableEq α] [DecidableEq β] (f : α → β) (hf : ∀ a b, f a = f b → a = b) (a b : α) : decide (f a = f b) = decide (a = b) := by
  by_cases h : a = b
  · subst h; simp
  · rw [decide_eq_false h, decide_eq_false (fun z => h (hf _ _ z))]
theorem dp_G (g : G K B ρ κ H) {d : PyData} (h : Rep K B ρ (.d d) v) : Dp K H v d := dp_up g.ex d v h
def rEqA (K : PySem.W.Frag) : R2 := fun x y H Q => rEq x y H Q ∨ rEqD K x y H Q
def rNeA (K : PySem.W.Frag) : R2 := fun x y H Q => rNe x y H Q ∨ rNeD K x y H Q
theorem oa_eq {l : Nat} (hr : Room l X.A) (hK : X.K = K := by rfl) : OpA K X (compareOp .Eq) (rEqA K) aEq := by
  obtain ⟨K, Kn, KZ, Ku⟩ := K
  change X.K = K at hK
  subst hK
  refine ⟨opr_or op_eq (op_eqD hr.units), ?_⟩
  intro B ρ κ H x y a b R Q g rx ry h q
  have h : aEqB _ a b κ R := h
  unfold aEqB at h
  split at h
  · cases rx.int; cases ry.int
    refine .inl ⟨rfl, ?_⟩
    rw [dec_inj V.int fun _ _ e => V.int.inj e]
    exact q.at0 g (rp_bl _) h
  · cases rx.str; cases ry.str
    refine .inl ⟨rfl, ?_⟩
    rw [dec_inj V.str fun _ _ e => V.str.inj e]
    exact q.at0 g (rp_bl _) h
  · cases rx.bool; cases ry.bool
    refine .inl ⟨rfl, ?_⟩
    rw [dec_inj V.bl fun _ _ e => V.bl.inj e]
    exact q.at0 g (rp_bl _) h
  · exact .inr ⟨_, _, dp_G g rx, dp_G g ry, h.1, h.2.1, q.at0 g (rp_bl _) h.2.2⟩
  · exact h.elim
theorem oa_ne {l : Nat} (hr : Room l X.A) (hK : X.K = K := by rfl) : OpA K X (compareOp .NotEq) (rNeA K) aNe := by
  obtain ⟨K, Kn, KZ, Ku⟩ := K
  change X.K = K at hK
  subst hK
  refine ⟨opr_or op_ne (op_neD hr.units), ?_⟩
  intro B ρ κ H x y a b R Q g rx ry h q
  have h : aEqB _ a b κ R := h
  unfold aEqB at h
  split at h
  · cases rx.int; cases ry.int
    refine .inl ⟨rfl, ?_⟩
    rw [dec_inj V.int fun _ _ e => V.int.inj e]
    exact q.at0 g (rp_bl _) h
  · cases rx.str; cases ry.str
    refine .inl ⟨rfl, ?_⟩
    rw [dec_inj V.str fun _ _ e => V.str.inj e]
    exact q.at0 g (rp_bl _) h
  · cases rx.bool; cases ry.bool
    refine .inl ⟨rfl, ?_⟩
    rw [dec_inj V.bl fun _ _ e => V.bl.inj e]
    exact q.at0 g (rp_bl _) h
  · exact .inr ⟨_, _, dp_G g rx, dp_G g ry, h.1, h.2.1, q.at0 g (rp_bl _) h.2.2⟩
  · exact h.elim
/-- is None, is not None -/
def aIsN (n : Bool → Bool) : AO := fun a b κ R => match a, b with
  | .d .none, .d .none => R (.d (.bool (n true))) κ
  | .d _, .d .none => R (.d (.bool (n false))) κ
  | .c _, .d .none => R (.d (.bool (n false))) κ
  | _, _ => False
theorem sr_isN {n : Bool → Bool} : SR K (fun x y H Q => y = .non ∧ Q (.bl (n (decide (x = .non)))) H) (aIsN n) := by
  intro B ρ κ H x y a b R Q g rx ry h q
  unfold aIsN at h
  split at h
  · cases rx.non
    exact ⟨ry.non, q.at0 g (rp_bl _) h⟩
  · rename_i d hd
    refine ⟨ry.non, ?_⟩
    have e : x ≠ .non := by
      intro e; subst e
      have rx' : Dp K B .non d := rx
      cases rx' with
      | non => exact hd rfl
    rw [decide_eq_false e]
    exact q.at0 g (rp_bl _) h
  · obtain ⟨p, _, rfl⟩ := rx
    exact ⟨ry.non, q.at0 g (rp_bl _) h⟩
  · exact h.elim
theorem oa_is : OpA K X (compareOp .Is) (fun x y H Q => y = .non ∧ Q (.bl (decide (x = .non))) H) (aIsN id) := ⟨op_isN, sr_isN (n := id)⟩
theorem oa_isnot : OpA K X (compareOp .IsNot) (fun x y H Q => y = .non ∧ Q (.bl (!decide (x = .non))) H) (aIsN not) := ⟨op_notN, sr_isN (n := not)⟩

/-! ### in -/
def flatD : PyData → Bool
  | .none => true | .bool _ => true | .int _ => true | .str _ => true | _ => false
def eqF : PyData → PyData → Bool
  | .none, .none => true
  | .bool a, .bool b => a == b
  | .bool a, .int b => (if a then 1 else 0) == b
  | .int a, .bool b => a == (if b then 1 else 0)
  | .int a, .int b => a == b
  | .str a, .str b => a == b
  | _, _ => false
def inD (x : PyData) (xs : List PyData) : Bool := xs.any fun y => eqF y x
theorem dp_flat {d : PyData} (h : Dp K B v d) (f : flatD d = true) : flatV v = true ∧ ∀ {w : V} {e : PyData}, Dp K B w e → flatD e = true → eqV v w = eqF d e := by
  cases h <;> first
    | exact ⟨rfl, fun hw hf => by cases hw <;> first | rfl | exact absurd (show false = true from hf) Bool.false_ne_true⟩
    | exact absurd (show false = true from f) Bool.false_ne_true
theorem dpa_flat : ∀ {ds : List PyData} {vs : List V}, DpAll K B vs ds → ds.all flatD = true → vs.all flatV = true
  | [], _, h, _ => by cases h; rfl
  | d :: ds, _, h, f => by
    cases h with
    | cons h1 h2 =>
      rw [List.all_cons, Bool.and_eq_true] at f ⊢
      exact ⟨(dp_flat h1 f.1).1, dpa_flat h2 f.2⟩
theorem inV_D {d : PyData} (h : Dp K B v d) (f : flatD d = true) : ∀ {ds : List PyData} {vs : List V}, DpAll K B vs ds → ds.all flatD = true → inV v vs = inD d ds
  | [], _, h2, _ => by cases h2; rfl
  | e :: ds, _, h2, f2 => by
    cases h2 with
    | cons h1 h3 =>
      rw [List.all_cons, Bool.and_eq_true] at f2
      show (eqV _ v || inV v _) = (eqF e d || inD d ds)
      rw [inV_D h f h3 f2.2, (dp_flat h1 f2.1).2 h f]
/-- one sign in a text; a flat thing in a list or tuple of flat things -/
def aIn (n : Bool → Bool) : AO := fun a b κ R => match a, b with
  | .d (.str s), .d (.str t) => ∃ c, s.cps.toList = [c] ∧ R (.d (.bool (n (decide (c ∈ t.cps.toList))))) κ
  | .d x, .d (.tuple ys) => flatD x = true ∧ ys.all flatD = true ∧ R (.d (.bool (n (inD x ys)))) κ
  | .d x, .d (.list ys) => flatD x = true ∧ ys.all flatD = true ∧ R (.d (.bool (n (inD x ys)))) κ
  | .d x, .c k => match κ[k]? with
    | some (.ld ys) => flatD x = true ∧ ys.all flatD = true ∧ R (.d (.bool (n (inD x ys)))) κ
    | _ => False
  | _, _ => False
def rInA (K : PySem.W.Frag) (b : Bool) : R2 := fun x y H Q => ((fun x y H Q => ∃ (c : Nat) (z : Str), x = .str ⟨#[c]⟩ ∧ y = .str z ∧ Q (.bl (if b then !decide (c ∈ z.cps.toList) else decide (c ∈ z.cps.toList))) H) : R2) x y H Q ∨ rIn K b x y H Q
theorem str_one {s : Str} {c : Nat} (h : s.cps.toList = [c]) : s = ⟨#[c]⟩ := by
  obtain ⟨a⟩ := s
  congr 1
  exact Array.toList_inj.mp h
theorem sr_in {nb : Bool} {n : Bool → Bool} (hn : ∀ b, (if nb then !b else b) = n b) : SR K (rInA K nb) (aIn n) := by
  intro B ρ κ H x y a b R Q g rx ry h q
  unfold aIn at h
  split at h
  · rename_i s t
    obtain ⟨c, e, h⟩ := h
    cases rx.str; cases ry.str
    refine .inl ⟨c, t, by rw [str_one e], rfl, ?_⟩
    rw [hn]
    exact q.at0 g (rp_bl _) h
  · rename_i d ys
    obtain ⟨p, vs, rfl, s1, d1⟩ := of_tupG g ry
    obtain ⟨f1, f2, h⟩ := h
    refine .inr ⟨p, vs, rfl, .inr s1, (dp_flat rx f1).1, dpa_flat d1 f2, ?_⟩
    rw [hn, inV_D rx f1 d1 f2]
    exact q.at0 g (rp_bl _) h
  · rename_i d ys
    obtain ⟨p, vs, rfl, s1, d1⟩ := of_listG g ry
    obtain ⟨f1, f2, h⟩ := h
    refine .inr ⟨p, vs, rfl, .inl s1, (dp_flat rx f1).1, dpa_flat d1 f2, ?_⟩
    rw [hn, inV_D rx f1 d1 f2]
    exact q.at0 g (rp_bl _) h
  · rename_i d k
    obtain ⟨p, hp, rfl⟩ := ry
    split at h
    · rename_i ys ek
      obtain ⟨f1, f2, h⟩ := h
      obtain ⟨p', hp', _, vs, d1, eH⟩ := g.cell ek
      rw [hp] at hp'; cases hp'
      refine .inr ⟨p, vs, rfl, .inl (.inl (.inl eH)), (dp_flat rx f1).1, dpa_flat d1 f2, ?_⟩
      rw [hn, inV_D rx f1 d1 f2]
      exact q.at0 g (rp_bl _) h
    · exact h.elim
  · exact h.elim
theorem oa_in (hK : X.K = K := by rfl) : OpA K X (compareOp .In) (rInA K false) (aIn id) := by
  obtain ⟨K, Kn, KZ, Ku⟩ := K
  change X.K = K at hK
  subst hK
  exact ⟨opr_or (by intro pins s σ H x y v u Q I rx ry h; exact op_in_sign pins s σ H x y v u Q I rx ry h) op_in_seq, sr_in fun b => by cases b <;> rfl⟩
theorem oa_notin (hK : X.K = K := by rfl) : OpA K X (compareOp .NotIn) (rInA K true) (aIn not) := by
  obtain ⟨K, Kn, KZ, Ku⟩ := K
  change X.K = K at hK
  subst hK
  exact ⟨opr_or (by intro pins s σ H x y v u Q I rx ry h; exact op_notIn_sign pins s σ H x y v u Q I rx ry h) op_notIn_seq, sr_in fun b => by cases b <;> rfl⟩
end
end Ab
set_option Elab.async false
set_option linter.all false
set_option maxRecDepth 100000
set_option maxHeartbeats 4000000
/-! Ab3: subscripts, slices, built-in calls, methods, displays, and, or, not, tests -/
namespace Ab
open PySem L2
variable {K : Frg} {B B' B2 H H' H2 : Hp} {ρ ρ' ρ2 : List Addr} {κ κ' : AK} {δ : AD} {σ : L2.St} {p : Addr} {k : Nat} {v x y z : V} {a b c : AV}
variable {X : Cx} {e e2 : Expr} {t u : TE} {f f2 : AE} {pos : Pos}

/-! ### a[i] -/
def aIx : AO := fun a b κ R => match a, b with
  | .d (.list xs), .d (.int i) => ∃ w, atI xs i = some w ∧ R (.d w) κ
  | .d (.tuple xs), .d (.int i) => ∃ w, atI xs i = some w ∧ R (.d w) κ
  | .d (.str s), .d (.int i) => ∃ c, s.length ≤ sizeLine ∧ atI s.cps.toList i = some c ∧ R (.d (.str ⟨#[c]⟩)) κ
  | .c k, .d (.int i) => match κ[k]? with
    | some (.ld xs) => ∃ w, atI xs i = some w ∧ R (.d w) κ
    | some (.lst xs) => ∃ w, atI xs i = some w ∧ R w κ
    | some (.tup xs) => ∃ w, atI xs i = some w ∧ R w κ
    | _ => False
  | _, _ => False
theorem atI_iff {α : Type} {xs : List α} {i : Int} {w : α} (h : atI xs i = some w) : ∃ j, ixN xs.length i = some j ∧ xs[j]? = some w := by
  unfold atI at h
  cases e : ixN xs.length i with
  | none => rw [e] at h; cases h
  | some j => rw [e] at h; exact ⟨j, rfl, h⟩
theorem atI_mk {α : Type} {xs : List α} {i : Int} {j : Nat} {w : α} (h : ixN xs.length i = some j) (h2 : xs[j]? = some w) : atI xs i = some w := by
  unfold atI; rw [h]; exact h2
theorem dpa_at {ds : List PyData} {vs : List V} {i : Int} {w : PyData} (h : DpAll K B vs ds) (e : atI ds i = some w) : ∃ v, atI vs i = some v ∧ Dp K B v w := by
  obtain ⟨j, h1, h2⟩ := atI_iff e
  obtain ⟨v, h3, h4⟩ := dpa_get h h2
  exact ⟨v, atI_mk (by rw [dpa_len h]; exact h1) h3, h4⟩
theorem reps_at {as : List AV} {vs : List V} {i : Int} {w : AV} (h : Reps K B ρ as vs) (e : atI as i = some w) : ∃ v, atI vs i = some v ∧ Rep K B ρ w v := by
  obtain ⟨j, h1, h2⟩ := atI_iff e
  obtain ⟨v, h3, h4⟩ := h.get h2
  exact ⟨v, atI_mk (by rw [← h.len]; exact h1) h3, h4⟩
theorem sr_ix : SR K (rIx K) aIx := by
  intro B ρ κ H x y a b R Q g rx ry h q
  unfold aIx at h
  split at h
  · obtain ⟨w, e, h⟩ := h
    obtain ⟨p, vs, rfl, s1, d1⟩ := of_listG g rx
    obtain ⟨v, e1, r1⟩ := dpa_at d1 e
    cases ry.int
    exact .inl ⟨p, vs, _, v, rfl, rfl, s1, e1, q.at0 (a := .d w) g r1 h⟩
  · obtain ⟨w, e, h⟩ := h
    obtain ⟨p, vs, rfl, s1, d1⟩ := of_tupG g rx
    obtain ⟨v, e1, r1⟩ := dpa_at d1 e
    cases ry.int
    exact .inr (.inl ⟨p, vs, _, v, rfl, rfl, s1, e1, q.at0 (a := .d w) g r1 h⟩)
  · obtain ⟨c, l, e, h⟩ := h
    cases rx.str; cases ry.int
    exact .inr (.inr ⟨_, _, c, rfl, rfl, l, e, q.at0 g (rp_str _) h⟩)
  · rename_i k i
    cases ry.int
    obtain ⟨p, hp, rfl⟩ := rx
    split at h
    · rename_i xs ek
      obtain ⟨w, e, h⟩ := h
      obtain ⟨p', hp', _, vs, r, eH⟩ := g.cell ek
      rw [hp] at hp'; cases hp'
      obtain ⟨v, e1, r1⟩ := dpa_at r e
      exact .inl ⟨p, vs, _, v, rfl, rfl, .inl (.inl eH), e1, q.at0 (a := .d w) g r1 h⟩
    · rename_i xs ek
      obtain ⟨w, e, h⟩ := h
      obtain ⟨p', hp', _, vs, r, eH⟩ := g.cell ek
      rw [hp] at hp'; cases hp'
      obtain ⟨v, e1, r1⟩ := reps_at r e
      exact .inl ⟨p, vs, _, v, rfl, rfl, .inl (.inl eH), e1, q.at0 g r1 h⟩
    · rename_i xs ek
      obtain ⟨w, e, h⟩ := h
      obtain ⟨p', hp', vs, r, eH⟩ := g.cell ek
      rw [hp] at hp'; cases hp'
      obtain ⟨v, e1, r1⟩ := reps_at r e
      exact .inr (.inl ⟨p, vs, _, v, rfl, rfl, .inl (.inl eH), e1, q.at0 g r1 h⟩)
    · exact h.elim
  · exact h.elim
theorem ea_ix (h1 : PEa K X e t f) (h2 : PEa K X e2 u f2) (hs : PlainIx e2 := by exact fun _ _ => rfl) (hK : X.K = K := by rfl) : PEa K X (.Subscript e e2 pos) (tOp (rIx K) t u) (aOp aIx f f2) := by
  obtain ⟨K, Kn, KZ, Ku⟩ := K
  change X.K = K at hK
  subst hK
  exact ⟨pe_ix ix_seq h1.pe h2.pe hs, se_op sr_ix h1.sd h2.sd⟩

/-! ### slices -/
abbrev AOp := AD → AK → (Option Int → AK → Prop) → Prop
def aNoPart : AOp := fun _ κ R => R none κ
def aPart (f : AE) : AOp := fun δ κ R => f δ κ fun a κ1 => match a with
  | .d (.int i) => R (some i) κ1
  | _ => False
def SO (K : Frg) (t : TO) (e : AOp) : Prop := ∀ B ρ δ κ σ H (R : Option Int → AK → Prop) (Q : Option Int → Hp → Prop), S K B ρ δ σ → G K B ρ κ H → e δ κ R →
  (∀ B' ρ' κ' H' o, Up B ρ H B' ρ' H' → G K B' ρ' κ' H' → R o κ' → Q o H') → t σ H Q
structure POa (K : Frg) (X : Cx) (e : Option Expr) (t : TO) (f : AOp) : Prop where
  po : PO X e t
  sd : SO K t f
theorem oa_none : POa K X none tNoPart aNoPart := ⟨po_none, fun B ρ δ κ σ H R Q s g h q => q _ _ _ _ _ Up.refl g h⟩
theorem oa_some (h : PEa K X e t f) : POa K X (some e) (tPart t) (aPart f) := ⟨po_some h.pe, fun B ρ δ κ σ H R Q s g hh q =>
  h.sd B ρ δ κ σ H _ _ s g hh fun B1 ρ1 κ1 H1 a x u1 g1 r1 h1 => by
    split at h1
    · exact ⟨_, r1.int, q _ _ _ _ _ u1 g1 h1⟩
    · exact h1.elim⟩
def cutD {α : Type} (xs : List α) (lo hi : Option Int) : List α := (xs.drop (HT.sIx xs.length 0 lo)).take (HT.sIx xs.length xs.length hi - HT.sIx xs.length 0 lo)
def aSl (f : AE) (l h : AOp) : AE := fun δ κ R => f δ κ fun a κ1 => l δ κ1 fun lo κ2 => h δ κ2 fun hi κ3 => match a with
  | .d (.str s) => s.length ≤ sizeLine ∧ R (.d (.str (cutS s lo hi))) κ3
  | .d (.list xs) => R (.d (.list (cutD xs lo hi))) κ3
  | .c k => match κ3[k]? with
    | some (.ld xs) => R (.c κ3.length) (κ3 ++ [.ld (cutD xs lo hi)])
    | some (.lst xs) => R (.c κ3.length) (κ3 ++ [.lst (cutD xs lo hi)])
    | _ => False
  | _ => False
def rSlG (K : PySem.W.Frag) : V → Option Int → Option Int → Hp → VK → Prop := fun x lo hi H Q => rSlS x lo hi H Q ∨ rSlL K x lo hi H Q
theorem sl_or {r r' : V → Option Int → Option Int → Hp → VK → Prop} (h : SlR X r) (h' : SlR X r') : SlR X (fun x lo hi H Q => r x lo hi H Q ∨ r' x lo hi H Q) := by
  intro pins s σ H x v vl vu lo hi sl Q I rx hs pl pu q
  rcases q with q | q
  · exact h pins s σ H x v vl vu lo hi sl Q I rx hs pl pu q
  · exact h' pins s σ H x v vl vu lo hi sl Q I rx hs pl pu q
theorem dpa_take : ∀ {ds : List PyData} {vs : List V} (n : Nat), DpAll K B vs ds → DpAll K B (vs.take n) (ds.take n)
  | [], _, n, h => by cases h; simp; exact .nil
  | d :: ds, _, n, h => by
    cases h with
    | cons h1 h2 =>
      cases n with
      | zero => exact .nil
      | succ n => exact .cons h1 (dpa_take n h2)
theorem dpa_drop : ∀ {ds : List PyData} {vs : List V} (n : Nat), DpAll K B vs ds → DpAll K B (vs.drop n) (ds.drop n)
  | [], _, n, h => by cases h; simp; exact .nil
  | d :: ds, _, n, h => by
    cases h with
    | cons h1 h2 =>
      cases n with
      | zero => exact .cons h1 h2
      | succ n => exact dpa_drop n h2
theorem Reps.take : ∀ {ds : List AV} {vs : List V} (n : Nat), Reps K B ρ ds vs → Reps K B ρ (ds.take n) (vs.take n)
  | _, _, 0, _ => .nil
  | _, _, _ + 1, .nil => .nil
  | _, _, n + 1, .cons r t => .cons r (Reps.take n t)
theorem Reps.drop : ∀ {ds : List AV} {vs : List V} (n : Nat), Reps K B ρ ds vs → Reps K B ρ (ds.drop n) (vs.drop n)
  | _, _, 0, r => r
  | _, _, _ + 1, .nil => .nil
  | _, _, n + 1, .cons _ t => Reps.drop n t
theorem dpa_cut {ds : List PyData} {vs : List V} (h : DpAll K B vs ds) (lo hi : Option Int) : DpAll K B (cutV vs lo hi) (cutD ds lo hi) := by
  unfold cutV cutD
  rw [dpa_len h]
  exact dpa_take _ (dpa_drop _ h)
theorem Reps.cut {ds : List AV} {vs : List V} (h : Reps K B ρ ds vs) (lo hi : Option Int) : Reps K B ρ (cutD ds lo hi) (cutV vs lo hi) := by
  unfold cutV cutD
  rw [← h.len]
  exact Reps.take _ (Reps.drop _ h)
theorem ea_slice {lo hi : Option Expr} {p2 : Pos} {tl th : TO} {fl fh : AOp} (h1 : PEa K X e t f) (hl : POa K X lo tl fl) (hh : POa K X hi th fh) (hK : X.K = K := by rfl) :
    PEa K X (.Subscript e (.Slice lo hi none p2) pos) (tSl (rSlG K) t tl th) (aSl f fl fh) := by
  obtain ⟨K, Kn, KZ, Ku⟩ := K
  change X.K = K at hK
  subst hK
  refine ⟨pe_slice (sl_or sl_str sl_list) h1.pe hl.po hh.po, fun B ρ δ κ σ H R Q s g h q => ?_⟩
  refine h1.sd B ρ δ κ σ H _ _ s g h fun B1 ρ1 κ1 H1 a x u1 g1 r1 h1 => ?_
  refine hl.sd B1 ρ1 δ κ1 σ H1 _ _ (s.up u1.g) g1 h1 fun B2 ρ2 κ2 H2 lo u2 g2 h2 => ?_
  refine hh.sd B2 ρ2 δ κ2 σ H2 _ _ (s.up (u1.trans u2).g) g2 h2 fun B3 ρ3 κ3 H3 hi u3 g3 h3 => ?_
  have r3 := r1.up (u2.trans u3).g
  have q3 := q.later ((u1.trans u2).trans u3)
  split at h3
  · cases r3.str
    exact .inl ⟨_, rfl, h3.1, q3.at0 g3 (rp_str _) h3.2⟩
  · rename_i xs
    obtain ⟨p, vs, rfl, s1, d1⟩ := of_listG g3 r3
    refine .inr ⟨p, vs, rfl, s1, fun p' hp' => ?_⟩
    obtain ⟨u4, g4, r4⟩ := new_lst g3 hp' (dpa_cut d1 lo hi)
    exact q3 _ _ _ _ _ _ u4 g4 r4 h3
  · rename_i k
    obtain ⟨p, hp, rfl⟩ := r3
    split at h3
    · rename_i xs ek
      obtain ⟨p', hp', _, vs, r, eH⟩ := g3.cell ek
      rw [hp] at hp'; cases hp'
      refine .inr ⟨p, vs, rfl, .inl (.inl eH), fun p' hp' => ?_⟩
      obtain ⟨u4, g4, r4⟩ := new_ld g3 hp' (dpa_cut r lo hi)
      exact q3 _ _ _ _ _ _ u4 g4 r4 h3
    · rename_i xs ek
      obtain ⟨p', hp', _, vs, r, eH⟩ := g3.cell ek
      rw [hp] at hp'; cases hp'
      refine .inr ⟨p, vs, rfl, .inl (.inl eH), fun p' hp' => ?_⟩
      obtain ⟨u4, g4, r4⟩ := new_cell g3 hp' (r.cut lo hi)
      exact q3 _ _ _ _ _ _ u4 g4 r4 h3
    · exact h3.elim
  · exact h3.elim

/-! ### argument lists, displays -/
def aNil : AA := fun _ κ R => R [] κ
def aCons (f : AE) (g : AA) : AA := fun δ κ R => f δ κ fun a κ1 => g δ κ1 fun as κ2 => R (a :: as) κ2
variable {es : List Expr} {ta : TA} {fa : AA}
theorem aa_nil : PAa K X [] tNil aNil := ⟨pa_nil, fun B ρ δ κ σ H R Q s g h q => q _ _ _ _ _ _ Up.refl g .nil h⟩
theorem aa_cons (h1 : PEa K X e t f) (h2 : PAa K X es ta fa) (hs : starEach (e :: es) X.env = (false, eval e X.env) :: starEach es X.env := by rfl) : PAa K X (e :: es) (tCons t ta) (aCons f fa) :=
  ⟨pa_cons h1.pe h2.pa hs, fun B ρ δ κ σ H R Q s g h q => h1.sd B ρ δ κ σ H _ _ s g h fun B1 ρ1 κ1 H1 a x u1 g1 r1 k1 => h2.sd B1 ρ1 δ κ1 σ H1 _ _ (s.up u1.g) g1 k1 fun B2 ρ2 κ2 H2 as xs u2 g2 r2 k2 =>
    q _ _ _ _ _ _ (u1.trans u2) g2 (.cons (r1.up u2.g) r2) k2⟩
def allD : List AV → Option (List PyData)
  | [] => some []
  | .d x :: r => match allD r with
    | some xs => some (x :: xs)
    | none => none
  | _ :: _ => none
theorem allD_eq : ∀ {as : List AV} {ds : List PyData}, allD as = some ds → as = ds.map .d
  | [], _, h => by cases h; rfl
  | .d x :: r, ds, h => by
    unfold allD at h
    split at h
    · rename_i xs e
      cases h
      rw [allD_eq e]; rfl
    · cases h
  | .c _ :: _, _, h => by cases h
  | .r _ :: _, _, h => by cases h
theorem allD_map : ∀ (ds : List PyData), allD (ds.map .d) = some ds
  | [] => rfl
  | d :: ds => by
    show (match allD (ds.map .d) with | some xs => some (d :: xs) | none => none) = _
    rw [allD_map ds]
def aTup (g : AA) : AE := fun δ κ R => g δ κ fun as κ1 => match allD as with
  | some ds => as.length ≤ sizeLine ∧ R (.d (.tuple ds)) κ1
  | none => as.length ≤ sizeLine ∧ R (.c κ1.length) (κ1 ++ [.tup as])
/-- a display that never changes, one that may change -/
def aLstD (g : AA) : AE := fun δ κ R => g δ κ fun as κ1 => match allD as with
  | some ds => as.length ≤ sizeLine ∧ R (.d (.list ds)) κ1
  | none => False
def aLst (g : AA) : AE := fun δ κ R => g δ κ fun as κ1 => match allD as with
  | some ds => as.length ≤ sizeLine ∧ R (.c κ1.length) (κ1 ++ [.ld ds])
  | none => as.length ≤ sizeLine ∧ R (.c κ1.length) (κ1 ++ [.lst as])
theorem ea_tup {x1} (h : PAa K X es ta fa) : PEa K X (.Tuple es x1 pos) (tTup ta) (aTup fa) := by
  refine ⟨pe_tup h.pa, fun B ρ δ κ σ H R Q s g hh q => h.sd B ρ δ κ σ H _ _ s g hh fun B1 ρ1 κ1 H1 as xs u1 g1 r1 h1 => ?_⟩
  split at h1
  · rename_i ds e
    obtain rfl := allD_eq e
    refine ⟨by rw [← r1.len]; exact h1.1, fun p hp => ?_⟩
    obtain ⟨u2, g2, r2⟩ := new_tup g1 hp (Reps.of_all r1)
    exact q _ _ _ _ _ _ (u1.trans u2) g2 r2 h1.2
  · refine ⟨by rw [← r1.len]; exact h1.1, fun p hp => ?_⟩
    obtain ⟨u2, g2, r2⟩ := new_tcell g1 hp r1
    exact q _ _ _ _ _ _ (u1.trans u2) g2 r2 h1.2
theorem ea_lstD (h : PAa K X es ta fa) : PEa K X (.List es pos) (tLst ta) (aLstD fa) := by
  refine ⟨pe_lst h.pa, fun B ρ δ κ σ H R Q s g hh q => h.sd B ρ δ κ σ H _ _ s g hh fun B1 ρ1 κ1 H1 as xs u1 g1 r1 h1 => ?_⟩
  split at h1
  · rename_i ds e
    obtain rfl := allD_eq e
    refine ⟨by rw [← r1.len]; exact h1.1, fun p hp => ?_⟩
    obtain ⟨u2, g2, r2⟩ := new_lst g1 hp (Reps.of_all r1)
    exact q _ _ _ _ _ _ (u1.trans u2) g2 r2 h1.2
  · exact h1.elim
theorem ea_lst (h : PAa K X es ta fa) : PEa K X (.List es pos) (tLst ta) (aLst fa) := by
  refine ⟨pe_lst h.pa, fun B ρ δ κ σ H R Q s g hh q => h.sd B ρ δ κ σ H _ _ s g hh fun B1 ρ1 κ1 H1 as xs u1 g1 r1 h1 => ?_⟩
  split at h1
  · rename_i ds e
    obtain rfl := allD_eq e
    refine ⟨by rw [← r1.len]; exact h1.1, fun p hp => ?_⟩
    obtain ⟨u2, g2, r2⟩ := new_ld g1 hp (Reps.of_all r1)
    exact q _ _ _ _ _ _ (u1.trans u2) g2 r2 h1.2
  · refine ⟨by rw [← r1.len]; exact h1.1, fun p hp => ?_⟩
    obtain ⟨u2, g2, r2⟩ := new_cell g1 hp r1
    exact q _ _ _ _ _ _ (u1.trans u2) g2 r2 h1.2

/-! ### built-in calls -/
def aCB (f : List AV → AK → AR → Prop) (g : AA) : AE := fun δ κ R => g δ κ fun as κ1 => f as κ1 R
theorem se_cb {r : List V → Hp → VK → Prop} {f : List AV → AK → AR → Prop} (hr : SL K r f) (h : SA K ta fa) : SE K (tCB r ta) (aCB f fa) := fun B ρ δ κ σ H R Q s g hh q =>
  h B ρ δ κ σ H _ _ s g hh fun B1 ρ1 κ1 H1 as xs u1 g1 r1 h1 => hr _ _ _ _ _ _ _ _ g1 r1 h1 (q.later u1)
structure CallA (K : Frg) (X : Cx) (f : Value) (r : List V → Hp → VK → Prop) (g : List AV → AK → AR → Prop) : Prop where
  c : CallR X f r
  sd : SL K r g
theorem ea_cb {id : String} {x : Str} {q pos : Pos} {r : List V → Hp → VK → Prop} {g : List AV → AK → AR → Prop} (hc : CallA K X (.builtin id) r g) (hg : Gl X x) (hm : X.mg x = none) (hv : bootBuiltins x = some (.builtin id)) (ha : PAa K X (e :: es) ta fa) (hn : x ≠ "__name__" := by decide) (hdb : (x == ("__debug__" : Str)) = false := by decide)
    (he : starEach (e :: es) X.env = (false, eval e X.env) :: starEach es X.env := by rfl) (hpl : (backTo pos (starEach es X.env)).any (·.1) = false := by rfl) : PEa K X (.Call (.Name x q) (e :: es) [] pos) (tCB r ta) (aCB g fa) :=
  ⟨pe_callB hc.c hg hm hv ha.pa hn hdb he hpl, se_cb hc.sd ha.sd⟩
theorem ea_ct {T : String} {x : Str} {q pos : Pos} {r : List V → Hp → VK → Prop} {g : List AV → AK → AR → Prop} (hc : CallA K X (.type T) r g) (hg : Gl X x) (hm : X.mg x = none) (hv : bootBuiltins x = some (.type T)) (ha : PAa K X (e :: es) ta fa) (hn : x ≠ "__name__" := by decide) (hdb : (x == ("__debug__" : Str)) = false := by decide)
    (he : starEach (e :: es) X.env = (false, eval e X.env) :: starEach es X.env := by rfl) (hpl : (backTo pos (starEach es X.env)).any (·.1) = false := by rfl) : PEa K X (.Call (.Name x q) (e :: es) [] pos) (tCB r ta) (aCB g fa) :=
  ⟨pe_callTy hc.c hg hm hv ha.pa hn hdb he hpl, se_cb hc.sd ha.sd⟩
/-- len -/
def aLen : List AV → AK → AR → Prop := fun as κ R => match as with
  | [.d (.str s)] => s.length ≤ sizeLine ∧ R (.d (.int s.length)) κ
  | [.d (.list xs)] => R (.d (.int xs.length)) κ
  | [.d (.tuple xs)] => R (.d (.int xs.length)) κ
  | [.c k] => match κ[k]? with
    | some (.ld xs) => R (.d (.int xs.length)) κ
    | some (.lst xs) => R (.d (.int xs.length)) κ
    | some (.tup xs) => R (.d (.int xs.length)) κ
    | _ => False
  | _ => False
def rLenA (K : PySem.W.Frag) : List V → Hp → VK → Prop := fun xs H Q => (∃ p ys, xs = [.ref p] ∧ (SqL K H p ys ∨ SqT K H p ys) ∧ Q (.int ys.length) H) ∨ (∃ z, xs = [.str z] ∧ z.length ≤ sizeLine ∧ Q (.int z.length) H)
theorem reps1 {as : AV} {xs : List V} (h : Reps K B ρ [as] xs) : ∃ x, xs = [x] ∧ Rep K B ρ as x := by
  cases h with
  | cons h1 h2 => cases h2; exact ⟨_, rfl, h1⟩
theorem reps2 {a1 a2 : AV} {xs : List V} (h : Reps K B ρ [a1, a2] xs) : ∃ x y, xs = [x, y] ∧ Rep K B ρ a1 x ∧ Rep K B ρ a2 y := by
  cases h with
  | cons h1 h2 =>
    obtain ⟨y, rfl, r⟩ := reps1 h2
    exact ⟨_, _, rfl, h1, r⟩
theorem ca_len (hK : X.K = K := by rfl) : CallA K X (.builtin "len") (rLenA K) aLen := by
  obtain ⟨K, Kn, KZ, Ku⟩ := K
  change X.K = K at hK
  subst hK
  refine ⟨callr_or call_len_seq call_len_str, fun B ρ κ H xs as R Q g rs h q => ?_⟩
  unfold aLen at h
  split at h
  · obtain ⟨x, rfl, r⟩ := reps1 rs
    cases r.str
    exact .inr ⟨_, rfl, h.1, q.at0 g (rp_int _) h.2⟩
  · obtain ⟨x, rfl, r⟩ := reps1 rs
    obtain ⟨p, vs, rfl, s1, d1⟩ := of_listG g r
    exact .inl ⟨p, vs, rfl, .inl s1, q.at0 g (rp_int _) (by rw [dpa_len d1]; exact h)⟩
  · obtain ⟨x, rfl, r⟩ := reps1 rs
    obtain ⟨p, vs, rfl, s1, d1⟩ := of_tupG g r
    exact .inl ⟨p, vs, rfl, .inr s1, q.at0 g (rp_int _) (by rw [dpa_len d1]; exact h)⟩
  · obtain ⟨x, rfl, r⟩ := reps1 rs
    obtain ⟨p, hp, rfl⟩ := r
    split at h
    · rename_i xs ek
      obtain ⟨p', hp', _, vs, r, eH⟩ := g.cell ek
      rw [hp] at hp'; cases hp'
      exact .inl ⟨p, vs, rfl, .inl (.inl (.inl eH)), q.at0 g (rp_int _) (by rw [dpa_len r]; exact h)⟩
    · rename_i xs ek
      obtain ⟨p', hp', _, vs, r, eH⟩ := g.cell ek
      rw [hp] at hp'; cases hp'
      exact .inl ⟨p, vs, rfl, .inl (.inl (.inl eH)), q.at0 g (rp_int _) (by rw [← r.len]; exact h)⟩
    · rename_i xs ek
      obtain ⟨p', hp', vs, r, eH⟩ := g.cell ek
      rw [hp] at hp'; cases hp'
      exact .inl ⟨p, vs, rfl, .inr (.inl (.inl eH)), q.at0 g (rp_int _) (by rw [← r.len]; exact h)⟩
    · exact h.elim
  · exact h.elim
/-- int(n) -/
def aIntOf : List AV → AK → AR → Prop := fun as κ R => match as with
  | [.d (.int i)] => R (.d (.int i)) κ
  | [.d (.bool b)] => R (.d (.int (if b then 1 else 0))) κ
  | _ => False
theorem ca_int : CallA K X (.type "int") (fun xs H Q => (∃ i, xs = [.int i] ∧ Q (.int i) H) ∨ ∃ k, xs = [.bl k] ∧ Q (.int (if k then 1 else 0)) H) aIntOf := by
  refine ⟨call_int1, fun B ρ κ H xs as R Q g rs h q => ?_⟩
  unfold aIntOf at h
  split at h
  · obtain ⟨x, rfl, r⟩ := reps1 rs
    exact .inl ⟨_, by rw [r.int], q.at0 g (rp_int _) h⟩
  · obtain ⟨x, rfl, r⟩ := reps1 rs
    exact .inr ⟨_, by rw [r.bool], q.at0 g (rp_int _) h⟩
  · exact h.elim
/-- str(n) -/
def aStrOf : List AV → AK → AR → Prop := fun as κ R => match as with
  | [.d (.int i)] => i.natAbs.log2 < 1920 ∧ R (.d (.str (toString i))) κ
  | _ => False
theorem ca_str : CallA K X (.type "str") (fun xs H Q => ∃ i, xs = [.int i] ∧ i.natAbs.log2 < 1920 ∧ Q (.str (toString i)) H) aStrOf := by
  refine ⟨call_str_int, fun B ρ κ H xs as R Q g rs h q => ?_⟩
  unfold aStrOf at h
  split at h
  · obtain ⟨x, rfl, r⟩ := reps1 rs
    exact ⟨_, by rw [r.int], h.1, q.at0 g (rp_str _) h.2⟩
  · exact h.elim
/-- list(x): a new list that may change, one that never does -/
def aListOf (mu : Bool) : List AV → AK → AR → Prop := fun as κ R => match as with
  | [.d (.list xs)] => if mu then R (.c κ.length) (κ ++ [.ld xs]) else R (.d (.list xs)) κ
  | [.d (.tuple xs)] => if mu then R (.c κ.length) (κ ++ [.ld xs]) else R (.d (.list xs)) κ
  | [.c k] => match κ[k]? with
    | some (.ld xs) => if mu then R (.c κ.length) (κ ++ [.ld xs]) else R (.d (.list xs)) κ
    | some (.lst xs) => R (.c κ.length) (κ ++ [.lst xs])
    | some (.tup xs) => R (.c κ.length) (κ ++ [.lst xs])
    | _ => False
  | _ => False
theorem ca_list (mu : Bool) (hK : X.K = K := by rfl) : CallA K X (.type "list") (fun xs H Q => ∃ p ys, xs = [.ref p] ∧ (SqL K H p ys ∨ SqT K H p ys) ∧ ∀ l, H l = none → Q (.ref l) (upd H l (.lst ys))) (aListOf mu) := by
  obtain ⟨K, Kn, KZ, Ku⟩ := K
  change X.K = K at hK
  subst hK
  refine ⟨call_list_of, fun B ρ κ H xs as R Q g rs h q => ?_⟩
  have key : ∀ {ds : List PyData} {vs : List V}, DpAll X.K B vs ds → (if mu then R (.c κ.length) (κ ++ [.ld ds]) else R (.d (.list ds)) κ) → ∀ l, H l = none → Q (.ref l) (upd H l (.lst vs)) := by
    intro ds vs d1 h l hl
    cases mu with
    | true =>
      obtain ⟨u2, g2, r2⟩ := new_ld g hl d1
      exact q _ _ _ _ _ _ u2 g2 r2 h
    | false =>
      obtain ⟨u2, g2, r2⟩ := new_lst g hl d1
      exact q _ _ _ _ _ _ u2 g2 r2 h
  unfold aListOf at h
  split at h
  · obtain ⟨x, rfl, r⟩ := reps1 rs
    obtain ⟨p, vs, rfl, s1, d1⟩ := of_listG g r
    exact ⟨p, vs, rfl, .inl s1, key d1 h⟩
  · obtain ⟨x, rfl, r⟩ := reps1 rs
    obtain ⟨p, vs, rfl, s1, d1⟩ := of_tupG g r
    exact ⟨p, vs, rfl, .inr s1, key d1 h⟩
  · obtain ⟨x, rfl, r⟩ := reps1 rs
    obtain ⟨p, hp, rfl⟩ := r
    split at h
    · rename_i xs ek
      obtain ⟨p', hp', _, vs, r, eH⟩ := g.cell ek
      rw [hp] at hp'; cases hp'
      exact ⟨p, vs, rfl, .inl (.inl (.inl eH)), key r h⟩
    · rename_i xs ek
      obtain ⟨p', hp', _, vs, r, eH⟩ := g.cell ek
      rw [hp] at hp'; cases hp'
      refine ⟨p, vs, rfl, .inl (.inl (.inl eH)), fun l hl => ?_⟩
      obtain ⟨u2, g2, r2⟩ := new_cell g hl r
      exact q _ _ _ _ _ _ u2 g2 r2 h
    · rename_i xs ek
      obtain ⟨p', hp', vs, r, eH⟩ := g.cell ek
      rw [hp] at hp'; cases hp'
      refine ⟨p, vs, rfl, .inr (.inl (.inl eH)), fun l hl => ?_⟩
      obtain ⟨u2, g2, r2⟩ := new_cell g hl r
      exact q _ _ _ _ _ _ u2 g2 r2 h
    · exact h.elim
  · exact h.elim
/-- isinstance(x, T), T a built-in class -/
def tyN : PyData → String
  | .none => "NoneType" | .bool _ => "bool" | .int _ => "int" | .str _ => "str" | .list _ => "list" | .tuple _ => "tuple" | .dict _ => "dict"
def aIsi : List AV → AK → AR → Prop := fun as κ R => match as with
  | [.d x, .r (.ty T)] => ∃ r, kitB (tyN x) T = some r ∧ R (.d (.bool r)) κ
  | [.c k, .r (.ty T)] => match κ[k]? with
    | some (.ld _) => ∃ r, kitB "list" T = some r ∧ R (.d (.bool r)) κ
    | some (.lst _) => ∃ r, kitB "list" T = some r ∧ R (.d (.bool r)) κ
    | some (.tup _) => ∃ r, kitB "tuple" T = some r ∧ R (.d (.bool r)) κ
    | _ => False
  | _ => False
theorem tyx_of {d : PyData} (h : Dp K H v d) : TyX K H v (.type (tyN d)) := by
  cases h with
  | non => exact .base .non
  | bl b => exact .base (.bl b)
  | int i => exact .base (.int i)
  | str x => exact .base (.str x)
  | lst hs ha =>
    rcases hs with (h | ⟨o, h⟩) | ⟨o, its, n, h, h2, _⟩
    · exact .base (.lst h)
    · exact .base (.frz h)
    · exact .kList h h2
  | tup hs ha =>
    rcases hs with (h | ⟨o, h⟩) | ⟨o, its, n, h, h2, _⟩
    · exact .base (.tup h)
    · exact .fTuple h
    · exact .kTuple h h2
theorem ca_isi (hK : X.K = K := by rfl) : CallA K X (.builtin "isinstance") (rIsi K) aIsi := by
  obtain ⟨K, Kn, KZ, Ku⟩ := K
  change X.K = K at hK
  subst hK
  refine ⟨call_isi, fun B ρ κ H xs as R Q g rs h q => ?_⟩
  unfold aIsi at h
  split at h
  · obtain ⟨x, y, rfl, r1, r2⟩ := reps2 rs
    obtain ⟨r, e, h⟩ := h
    obtain rfl := (show y = _ from r2)
    exact ⟨x, _, _, _, r, rfl, .ty _, tyx_of (dp_G g r1), kit_ty e, q.at0 g (rp_bl _) h⟩
  · obtain ⟨x, y, rfl, r1, r2⟩ := reps2 rs
    obtain rfl := (show y = _ from r2)
    obtain ⟨p, hp, rfl⟩ := r1
    split at h
    · rename_i xs ek
      obtain ⟨r, e, h⟩ := h
      obtain ⟨p', hp', _, vs, _, eH⟩ := g.cell ek
      rw [hp] at hp'; cases hp'
      exact ⟨_, _, _, _, r, rfl, .ty _, .base (.lst eH), kit_ty e, q.at0 g (rp_bl _) h⟩
    · rename_i xs ek
      obtain ⟨r, e, h⟩ := h
      obtain ⟨p', hp', _, vs, _, eH⟩ := g.cell ek
      rw [hp] at hp'; cases hp'
      exact ⟨_, _, _, _, r, rfl, .ty _, .base (.lst eH), kit_ty e, q.at0 g (rp_bl _) h⟩
    · rename_i xs ek
      obtain ⟨r, e, h⟩ := h
      obtain ⟨p', hp', vs, _, eH⟩ := g.cell ek
      rw [hp] at hp'; cases hp'
      exact ⟨_, _, _, _, r, rfl, .ty _, .base (.tup eH), kit_ty e, q.at0 g (rp_bl _) h⟩
    · exact h.elim
  · exact h.elim

/-! ### methods of built-in classes -/
def tyA (T : String) (a : AV) (κ : AK) : Prop := match a with
  | .d (.str _) => T = "str"
  | .d (.list _) => T = "list"
  | .c k => match κ[k]? with
    | some (.ld _) => T = "list"
    | some (.lst _) => T = "list"
    | some (.dK _) => T = "dict"
    | some (.dT _) => T = "dict"
    | some (.dA _) => T = "dict"
    | _ => False
  | _ => False
theorem tyA_ok {T : String} (g : G K B ρ κ H) (r : Rep K B ρ a x) (h : tyA T a κ) : tyV K T x H := by
  unfold tyA at h
  split at h
  · rw [r.str]; exact h
  · obtain ⟨p, vs, rfl, s1, d1⟩ := of_listG g r
    exact .inl ⟨h, vs, s1⟩
  · obtain ⟨p, hp, rfl⟩ := r
    split at h
    · rename_i xs ek
      obtain ⟨p', hp', _, vs, _, eH⟩ := g.cell ek
      rw [hp] at hp'; cases hp'
      exact .inl ⟨h, vs, .inl (.inl eH)⟩
    · rename_i xs ek
      obtain ⟨p', hp', _, vs, _, eH⟩ := g.cell ek
      rw [hp] at hp'; cases hp'
      exact .inl ⟨h, vs, .inl (.inl eH)⟩
    · rename_i xs ek
      obtain ⟨p', hp', _, vs, _, eH⟩ := g.cell ek
      rw [hp] at hp'; cases hp'
      exact .inr (.inr (.inl ⟨h, .inl ⟨vs, eH⟩⟩))
    · rename_i xs ek
      obtain ⟨p', hp', _, vs, _, eH⟩ := g.cell ek
      rw [hp] at hp'; cases hp'
      exact .inr (.inr (.inl ⟨h, .inr ⟨vs, eH⟩⟩))
    · rename_i xs ek
      obtain ⟨p', hp', _, vs, _, eH⟩ := g.cell ek
      rw [hp] at hp'; cases hp'
      exact .inr (.inr (.inl ⟨h, .inl ⟨vs, eH⟩⟩))
    · exact h.elim
  · exact h.elim
structure MtA (K : Frg) (X : Cx) (id : String) (r : V → List V → Hp → VK → Prop) (g : AV → List AV → AK → AR → Prop) : Prop where
  m : MtR X id r
  sd : ∀ B ρ κ H x xs a as (R : AR) (Q : VK), G K B ρ κ H → Rep K B ρ a x → Reps K B ρ as xs → g a as κ R → Nx K B ρ H R Q → r x xs H Q
def aBM (T : String) (g : AV → List AV → AK → AR → Prop) (f : AE) (fa : AA) : AE := fun δ κ R => f δ κ fun a κ1 => tyA T a κ1 ∧ fa δ κ1 fun as κ2 => g a as κ2 R
def aBM0 (T : String) (g : AV → List AV → AK → AR → Prop) (f : AE) : AE := fun δ κ R => f δ κ fun a κ1 => tyA T a κ1 ∧ g a [] κ1 R
theorem ea_bm {T id : String} {name : Str} {apos cpos : Pos} {r : V → List V → Hp → VK → Prop} {g : AV → List AV → AK → AR → Prop} (hm : MtA K X id r g) (pa : PlainAttrs T) (slot : Slot T name id) (hty : typeOf (.builtin id) = pure (.type "method_descriptor")) (ho : PEa K X e2 t f) (ha : PAa K X (e :: es) ta fa)
    (hbase : attributeBase e2 name X.env (eval e2 X.env) = eval e2 X.env := by rfl)
    (hfew : ((backTo cpos (starEach (e :: es) X.env)).all (fun x => !x.1) && (backToKw cpos (keywordEach [] X.env)).all (fun x => x.1.isSome)
      && decide ((e :: es).length + ([] : List Keyword).length + (if ([] : List Keyword).isEmpty then 0 else 1) < 30)) = true := by rfl)
    (hline : (apos.endLine == cpos.line) = true := by rfl) (hs : starEach (e :: es) X.env = (false, eval e X.env) :: starEach es X.env := by rfl) (hplain : (backTo cpos (starEach es X.env)).any (·.1) = false := by rfl) (hK : X.K = K := by rfl) :
    PEa K X (.Call (.Attribute e2 name apos) (e :: es) [] cpos) (tBM K T r t ta) (aBM T g f fa) := by
  obtain ⟨K, Kn, KZ, Ku⟩ := K
  change X.K = K at hK
  subst hK
  exact ⟨pe_bm pa slot hty hm.m ho.pe ha.pa hbase hfew hline hs hplain, fun B ρ δ κ σ H R Q s gg h q => ho.sd B ρ δ κ σ H _ _ s gg h fun B1 ρ1 κ1 H1 a x u1 g1 r1 h1 =>
    ⟨tyA_ok g1 r1 h1.1, ha.sd B1 ρ1 δ κ1 σ H1 _ _ (s.up u1.g) g1 h1.2 fun B2 ρ2 κ2 H2 as xs u2 g2 r2 h2 => hm.sd _ _ _ _ _ _ _ _ _ _ g2 (r1.up u2.g) r2 h2 (q.later (u1.trans u2))⟩⟩
theorem ea_bm0 {T id : String} {name : Str} {apos cpos : Pos} {r : V → List V → Hp → VK → Prop} {g : AV → List AV → AK → AR → Prop} (hm : MtA K X id r g) (pa : PlainAttrs T) (slot : Slot T name id) (hty : typeOf (.builtin id) = pure (.type "method_descriptor")) (ho : PEa K X e2 t f)
    (hbase : attributeBase e2 name X.env (eval e2 X.env) = eval e2 X.env := by rfl) (hline : (apos.endLine == cpos.line) = true := by rfl) (hK : X.K = K := by rfl) : PEa K X (.Call (.Attribute e2 name apos) [] [] cpos) (tBM0 K T r t) (aBM0 T g f) := by
  obtain ⟨K, Kn, KZ, Ku⟩ := K
  change X.K = K at hK
  subst hK
  exact ⟨pe_bm0 pa slot hty hm.m ho.pe hbase hline, fun B ρ δ κ σ H R Q s gg h q => ho.sd B ρ δ κ σ H _ _ s gg h fun B1 ρ1 κ1 H1 a x u1 g1 r1 h1 =>
    ⟨tyA_ok g1 r1 h1.1, hm.sd _ _ _ _ _ _ _ _ _ _ g1 r1 .nil h1.2 (q.later u1)⟩⟩
/-- a list cell: where it stands, and how it changes -/
theorem G.lstAt (g : G K B ρ κ H) {xs : List AV} (hp : ρ[k]? = some p) (ek : κ[k]? = some (.lst xs)) : ∃ vs, Reps K B ρ xs vs ∧ H p = some (.lst vs) ∧
    ∀ xs' vs', Reps K B ρ xs' vs' → Up B ρ H B ρ (upd H p (.lst vs')) ∧ G K B ρ (κ.set k (.lst xs')) (upd H p (.lst vs')) := by
  obtain ⟨p', hp', hb, vs, r, eH⟩ := g.cell ek
  rw [hp] at hp'; cases hp'
  refine ⟨vs, r, eH, fun xs' vs' r' => ⟨G.writeUp hp, ?_⟩⟩
  have hc : CellOk K B ρ (upd H p (.lst vs')) p (.lst xs') := ⟨hb, vs', r', upd_same⟩
  exact g.write hp hb hc
theorem G.ldAt (g : G K B ρ κ H) {xs : List PyData} (hp : ρ[k]? = some p) (ek : κ[k]? = some (.ld xs)) : ∃ vs, DpAll K B vs xs ∧ H p = some (.lst vs) ∧
    ∀ xs' vs', DpAll K B vs' xs' → Up B ρ H B ρ (upd H p (.lst vs')) ∧ G K B ρ (κ.set k (.ld xs')) (upd H p (.lst vs')) := by
  obtain ⟨p', hp', hb, vs, r, eH⟩ := g.cell ek
  rw [hp] at hp'; cases hp'
  refine ⟨vs, r, eH, fun xs' vs' r' => ⟨G.writeUp hp, ?_⟩⟩
  have hc : CellOk K B ρ (upd H p (.lst vs')) p (.ld xs') := ⟨hb, vs', r', upd_same⟩
  exact g.write hp hb hc
/-- xs.append(y) -/
def aAppend : AV → List AV → AK → AR → Prop := fun a as κ R => match a, as with
  | .c k, [y] => match κ[k]?, y with
    | some (.ld xs), .d z => xs.length < sizeLine ∧ R (.d .none) (κ.set k (.ld (xs ++ [z])))
    | some (.lst xs), y => xs.length < sizeLine ∧ R (.d .none) (κ.set k (.lst (xs ++ [y])))
    | _, _ => False
  | _, _ => False
theorem ma_append : MtA K X "list.append" rAppend aAppend := by
  refine ⟨mt_append, fun B ρ κ H x xs a as R Q g rx rs h q => ?_⟩
  unfold aAppend at h
  split at h
  · obtain ⟨p, hp, rfl⟩ := rx
    obtain ⟨y, rfl, ry⟩ := reps1 rs
    split at h
    · rename_i xs z ek
      obtain ⟨vs, r, eH, wr⟩ := g.ldAt hp ek
      obtain ⟨u2, g2⟩ := wr _ _ (dpa_app r (.cons ry .nil))
      refine ⟨p, vs, y, rfl, rfl, eH, by rw [dpa_len r]; exact h.1, q _ _ _ _ _ _ u2 g2 rp_non h.2⟩
    · rename_i xs y' ek
      obtain ⟨vs, r, eH, wr⟩ := g.lstAt hp ek
      obtain ⟨u2, g2⟩ := wr _ _ (r.snoc ry)
      refine ⟨p, vs, y, rfl, rfl, eH, by rw [← r.len]; exact h.1, q _ _ _ _ _ _ u2 g2 rp_non h.2⟩
    · exact h.elim
  · exact h.elim
/-- s.startswith(x, i) -/
def aStarts3 : AV → List AV → AK → AR → Prop := fun a as κ R => match a, as with
  | .d (.str s), [.d (.str t), .d (.int i)] => R (.d (.bool (Txt.startswith3 s t i))) κ
  | _, _ => False
theorem ma_starts3 : MtA K X "str.startswith" (fun x xs H Q => ∃ (a b : Str) (i : Int), x = .str a ∧ xs = [.str b, .int i] ∧ Q (.bl (Txt.startswith3 a b i)) H) aStarts3 := by
  refine ⟨mt_startswith3, fun B ρ κ H x xs a as R Q g rx rs h q => ?_⟩
  unfold aStarts3 at h
  split at h
  · obtain ⟨y, z, rfl, r1, r2⟩ := reps2 rs
    cases rx.str; cases r1.str; cases r2.int
    exact ⟨_, _, _, rfl, rfl, q.at0 g (rp_bl _) h⟩
  · exact h.elim

/-! ### tests -/
variable {tA tB' : TT} {pA pB : AT}
/-- a choice by a truth -/
def bsel (b : Bool) (A C : Prop) : Prop := match b with
  | true => A
  | false => C
theorem bsel_i {b : Bool} {A C : Prop} (h1 : b = true → A) (h0 : b = false → C) : bsel b A C := by
  cases b with
  | true => exact h1 rfl
  | false => exact h0 rfl
def aB (f : AE) : AT := fun δ κ R => f δ κ fun a κ1 => match a with
  | .d (.bool b) => R b κ1
  | _ => False
theorem st_B (h : SE K t f) : ST K (tB t) (aB f) := fun B ρ δ κ σ H R Q s g hh q => h B ρ δ κ σ H _ _ s g hh fun B1 ρ1 κ1 H1 a x u1 g1 r1 h1 => by
  split at h1
  · exact ⟨_, r1.bool, q _ _ _ _ _ u1 g1 h1⟩
  · exact h1.elim
theorem ta_cmp {op : CmpOp} {r : R2} {g : AO} (ho : OpA K X (compareOp op) r g) (h1 : PEa K X e t f) (h2 : PEa K X e2 u f2) (hm : behindInMarks op e2 = false := by first | exact nomark _ | rfl) : PTa K X (.Compare e [op] [e2] pos) (tTest (tOp r t u)) (aB (aOp g f f2)) :=
  ⟨pt_cmpR ho.op h1.pe h2.pe hm, st_B (se_op ho.sd h1.sd h2.sd)⟩
/-- truth of anything -/
def aTru (f : AE) : AT := fun δ κ R => f δ κ fun a κ1 => match a with
  | .d (.bool b) => R b κ1
  | .d .none => R false κ1
  | .d (.int i) => R (i != 0) κ1
  | .d (.str s) => s.length ≤ sizeLine ∧ R ((s.length : Int) != 0) κ1
  | .d (.list xs) => R (!xs.isEmpty) κ1
  | .d (.tuple xs) => R (!xs.isEmpty) κ1
  | .c k => match κ1[k]? with
    | some (.ld xs) => R (!xs.isEmpty) κ1
    | some (.lst xs) => R (!xs.isEmpty) κ1
    | _ => False
  | _ => False
theorem emp_dpa {ds : List PyData} {vs : List V} (h : DpAll K B vs ds) : (!vs.isEmpty) = !ds.isEmpty := by
  cases ds with
  | nil => cases h; rfl
  | cons _ _ => cases h; rfl
theorem emp_reps {ds : List AV} {vs : List V} (h : Reps K B ρ ds vs) : (!vs.isEmpty) = !ds.isEmpty := by
  cases h <;> rfl
theorem ta_tru (h : PEa K X e t f) (he : ∀ whole, isTrue e X.env whole = (do let v ← whole; standAt e.pos; holding [v] (truthy v)) := by intro _; rfl) (hK : X.K = K := by rfl) : PTa K X e (fun σ H Q => t σ H fun x H' => ∃ k, TruV K x H' k ∧ Q k H') (aTru f) := by
  obtain ⟨K, Kn, KZ, Ku⟩ := K
  change X.K = K at hK
  subst hK
  refine ⟨pt_truth h.pe he, fun B ρ δ κ σ H R Q s g hh q => h.sd B ρ δ κ σ H _ _ s g hh fun B1 ρ1 κ1 H1 a x u1 g1 r1 h1 => ?_⟩
  split at h1
  · rw [r1.bool]; exact ⟨_, rfl, q _ _ _ _ _ u1 g1 h1⟩
  · rw [r1.non]; exact ⟨_, rfl, q _ _ _ _ _ u1 g1 h1⟩
  · rw [r1.int]; exact ⟨_, rfl, q _ _ _ _ _ u1 g1 h1⟩
  · rw [r1.str]; exact ⟨_, ⟨h1.1, rfl⟩, q _ _ _ _ _ u1 g1 h1.2⟩
  · obtain ⟨p, vs, rfl, s1, d1⟩ := of_listG g1 r1
    exact ⟨_, .inl ⟨vs, s1, rfl⟩, q _ _ _ _ _ u1 g1 (by rw [emp_dpa d1]; exact h1)⟩
  · obtain ⟨p, vs, rfl, s1, d1⟩ := of_tupG g1 r1
    exact ⟨_, .inr (.inl ⟨vs, s1, rfl⟩), q _ _ _ _ _ u1 g1 (by rw [emp_dpa d1]; exact h1)⟩
  · obtain ⟨p, hp, rfl⟩ := r1
    split at h1
    · rename_i xs ek
      obtain ⟨p', hp', _, vs, r, eH⟩ := g1.cell ek
      rw [hp] at hp'; cases hp'
      exact ⟨_, .inl ⟨vs, .inl (.inl eH), rfl⟩, q _ _ _ _ _ u1 g1 (by rw [emp_dpa r]; exact h1)⟩
    · rename_i xs ek
      obtain ⟨p', hp', _, vs, r, eH⟩ := g1.cell ek
      rw [hp] at hp'; cases hp'
      exact ⟨_, .inl ⟨vs, .inl (.inl eH), rfl⟩, q _ _ _ _ _ u1 g1 (by rw [emp_reps r]; exact h1)⟩
    · exact h1.elim
  · exact h1.elim
def aAnd (p q : AT) : AT := fun δ κ R => p δ κ fun c κ1 => bsel c (q δ κ1 R) (R false κ1)
def aOr (p q : AT) : AT := fun δ κ R => p δ κ fun c κ1 => bsel c (R true κ1) (q δ κ1 R)
def aNot (p : AT) : AT := fun δ κ R => p δ κ fun c κ1 => R (!c) κ1
variable {e' : Expr} {rs : List Expr}
theorem wa_1 {op : BoolOp} (ho : op = .And ∨ op = .Or) (h : PTa K X e tA pA) : PWa K X (.BoolOp op [e] pos) tA pA := by
  rcases ho with rfl | rfl
  · exact ⟨pw_and1 h.pt, h.sd⟩
  · exact ⟨pw_or1 h.pt, h.sd⟩
theorem wa_and1 (h : PTa K X e tA pA) : PWa K X (.BoolOp .And [e] pos) tA pA := ⟨pw_and1 h.pt, h.sd⟩
theorem wa_or1 (h : PTa K X e tA pA) : PWa K X (.BoolOp .Or [e] pos) tA pA := ⟨pw_or1 h.pt, h.sd⟩
theorem wa_and (h : PTa K X e tA pA) (h2 : PWa K X (.BoolOp .And (e' :: rs) pos) tB' pB) : PWa K X (.BoolOp .And (e :: e' :: rs) pos) (tAnd tA tB') (aAnd pA pB) :=
  ⟨pw_and h.pt h2.pw, fun B ρ δ κ σ H R Q s g hh q => h.sd B ρ δ κ σ H _ _ s g hh fun B1 ρ1 κ1 H1 c u1 g1 h1 => by
    cases c with
    | true => exact iteT (h2.sd B1 ρ1 δ κ1 σ H1 R Q (s.up u1.g) g1 h1 fun B2 ρ2 κ2 H2 b u2 g2 k2 => q _ _ _ _ _ (u1.trans u2) g2 k2)
    | false => exact iteF (q _ _ _ _ _ u1 g1 h1)⟩
theorem wa_or (h : PTa K X e tA pA) (h2 : PWa K X (.BoolOp .Or (e' :: rs) pos) tB' pB) : PWa K X (.BoolOp .Or (e :: e' :: rs) pos) (tOr tA tB') (aOr pA pB) :=
  ⟨pw_or h.pt h2.pw, fun B ρ δ κ σ H R Q s g hh q => h.sd B ρ δ κ σ H _ _ s g hh fun B1 ρ1 κ1 H1 c u1 g1 h1 => by
    cases c with
    | true => exact iteT (q _ _ _ _ _ u1 g1 h1)
    | false => exact iteF (h2.sd B1 ρ1 δ κ1 σ H1 R Q (s.up u1.g) g1 h1 fun B2 ρ2 κ2 H2 b u2 g2 k2 => q _ _ _ _ _ (u1.trans u2) g2 k2)⟩
theorem ta_not (h : PTa K X e tA pA) : PTa K X (.UnaryOp .Not e pos) (tNot tA) (aNot pA) := ⟨pt_not h.pt, fun B ρ δ κ σ H R Q s g hh q => h.sd B ρ δ κ σ H _ _ s g hh fun B1 ρ1 κ1 H1 c u1 g1 h1 => q _ _ _ _ _ u1 g1 h1⟩
/-- as values -/
def aAndV (p q : AE) : AE := fun δ κ R => p δ κ fun a κ1 => match a with
  | .d (.bool b) => bsel b (q δ κ1 R) (R (.d (.bool false)) κ1)
  | _ => False
def aOrV (p q : AE) : AE := fun δ κ R => p δ κ fun a κ1 => match a with
  | .d (.bool b) => bsel b (R (.d (.bool true)) κ1) (q δ κ1 R)
  | _ => False
def aNotV (p : AE) : AE := fun δ κ R => p δ κ fun a κ1 => match a with
  | .d (.bool b) => R (.d (.bool (!b))) κ1
  | _ => False
theorem ea_one {op : BoolOp} (h : PEa K X e t f) : PEa K X (.BoolOp op [e] pos) t f := ⟨pe_one h.pe, h.sd⟩
theorem ea_and (h : PEa K X e t f) (h2 : PEa K X (.BoolOp .And (e' :: rs) pos) u f2) : PEa K X (.BoolOp .And (e :: e' :: rs) pos) (tAndV t u) (aAndV f f2) :=
  ⟨pe_and h.pe h2.pe, fun B ρ δ κ σ H R Q s g hh q => h.sd B ρ δ κ σ H _ _ s g hh fun B1 ρ1 κ1 H1 a x u1 g1 r1 h1 => by
    split at h1
    · rename_i c
      refine ⟨_, r1.bool, ?_⟩
      cases c with
      | true => exact iteT (h2.sd B1 ρ1 δ κ1 σ H1 R Q (s.up u1.g) g1 h1 (q.later u1))
      | false => exact iteF (q _ _ _ _ _ _ u1 g1 (rp_bl _) h1)
    · exact h1.elim⟩
theorem ea_or (h : PEa K X e t f) (h2 : PEa K X (.BoolOp .Or (e' :: rs) pos) u f2) : PEa K X (.BoolOp .Or (e :: e' :: rs) pos) (tOrV t u) (aOrV f f2) :=
  ⟨pe_or h.pe h2.pe, fun B ρ δ κ σ H R Q s g hh q => h.sd B ρ δ κ σ H _ _ s g hh fun B1 ρ1 κ1 H1 a x u1 g1 r1 h1 => by
    split at h1
    · rename_i c
      refine ⟨_, r1.bool, ?_⟩
      cases c with
      | true => exact iteT (q _ _ _ _ _ _ u1 g1 (rp_bl _) h1)
      | false => exact iteF (h2.sd B1 ρ1 δ κ1 σ H1 R Q (s.up u1.g) g1 h1 (q.later u1))
    · exact h1.elim⟩
theorem ea_not (h : PEa K X e t f) : PEa K X (.UnaryOp .Not e pos) (tNotV t) (aNotV f) :=
  ⟨pe_not h.pe, fun B ρ δ κ σ H R Q s g hh q => h.sd B ρ δ κ σ H _ _ s g hh fun B1 ρ1 κ1 H1 a x u1 g1 r1 h1 => by
    split at h1
    · exact ⟨_, r1.bool, q _ _ _ _ _ _ u1 g1 (rp_bl _) h1⟩
    · exact h1.elim⟩
def aIf (p : AT) (a b : AE) : AE := fun δ κ R => p δ κ fun c κ1 => bsel c (a δ κ1 R) (b δ κ1 R)
theorem ea_if {c : Expr} (hc : PTa K X c tA pA) (h : PEa K X e t f) (h2 : PEa K X e2 u f2) : PEa K X (.IfExp c e e2 pos) (tIf tA t u) (aIf pA f f2) :=
  ⟨pe_ifExp hc.pt h.pe h2.pe, fun B ρ δ κ σ H R Q s g hh q => hc.sd B ρ δ κ σ H _ _ s g hh fun B1 ρ1 κ1 H1 c u1 g1 h1 => by
    cases c with
    | true => exact iteT (h.sd B1 ρ1 δ κ1 σ H1 R Q (s.up u1.g) g1 h1 (q.later u1))
    | false => exact iteF (h2.sd B1 ρ1 δ κ1 σ H1 R Q (s.up u1.g) g1 h1 (q.later u1))⟩
/-- -n -/
def aNeg : AV → AK → AR → Prop := fun a κ R => match a with
  | .d (.int i) => R (.d (.int (-i))) κ
  | _ => False
theorem ea_neg (h : PEa K X e t f) : PEa K X (.UnaryOp .USub e pos) (tUn (rU fun i => .int (-i)) t) (aUn aNeg f) := ea_un un_neg (fun B ρ κ H x a R Q g rx h q => by
  unfold aNeg at h
  split at h
  · exact ⟨_, rx.int, q.at0 g (rp_int _) h⟩
  · exact h.elim) h
end Ab
set_option Elab.async false
set_option linter.all false
set_option maxRecDepth 100000
set_option maxHeartbeats 4000000
/-! Ab4: statements, targets, what is walked, loops, comprehensions -/
namespace Ab
open PySem L2
variable {K : Frg} {B B' B2 H H' H2 : Hp} {ρ ρ' ρ2 : List Addr} {κ κ' : AK} {δ : AD} {σ : L2.St} {p : Addr} {k : Nat} {v x y z : V} {a b c : AV}
variable {X : Cx} {e e2 : Expr} {t u : TE} {f f2 : AE} {pos : Pos}

theorem UpN.mono {n m : Nat} (w : UpN m B ρ H B' ρ' H') (h : n ≤ m) : UpN n B ρ H B' ρ' H' := ⟨w.s, fun i a hi e => w.p i a (Nat.lt_of_lt_of_le hi h) e, w.f⟩
structure AEnds where
  /-- the cells that stand at the entry -/
  n : Nat
  nx : AD → AK → Prop
  rt : AR
  bk : AD → AK → Prop := fun _ _ => False
  ct : AD → AK → Prop := fun _ _ => False
abbrev AS := AEnds → AD → AK → Prop
/-- a way on -/
abbrev ImpN (K : Frg) (n : Nat) (B : Hp) (ρ : List Addr) (H : Hp) (P : AD → AK → Prop) (Q : L2.St → Hp → Prop) : Prop := ∀ B' ρ' κ' H' δ' σ', UpN n B ρ H B' ρ' H' → G K B' ρ' κ' H' → S K B' ρ' δ' σ' → n ≤ κ'.length → P δ' κ' → Q σ' H'
abbrev ImpR (K : Frg) (n : Nat) (B : Hp) (ρ : List Addr) (H : Hp) (P : AR) (Q : VK) : Prop := ∀ B' ρ' κ' H' a v, UpN n B ρ H B' ρ' H' → G K B' ρ' κ' H' → Rep K B' ρ' a v → n ≤ κ'.length → P a κ' → Q v H'
structure Imp (K : Frg) (B : Hp) (ρ : List Addr) (H : Hp) (A : AEnds) (D : Ends) : Prop where
  nx : ImpN K A.n B ρ H A.nx D.nx
  rt : ImpR K A.n B ρ H A.rt D.rt
  bk : ImpN K A.n B ρ H A.bk D.bk
  ct : ImpN K A.n B ρ H A.ct D.ct
  kn : K.n ≤ A.n
theorem Imp.later {A : AEnds} {D : Ends} (i : Imp K B ρ H A D) (w : UpN A.n B ρ H B' ρ' H') : Imp K B' ρ' H' A D :=
  ⟨fun _ _ _ _ _ _ w2 g s l h => i.nx _ _ _ _ _ _ (w.trans w2) g s l h, fun _ _ _ _ _ _ w2 g s l h => i.rt _ _ _ _ _ _ (w.trans w2) g s l h,
   fun _ _ _ _ _ _ w2 g s l h => i.bk _ _ _ _ _ _ (w.trans w2) g s l h, fun _ _ _ _ _ _ w2 g s l h => i.ct _ _ _ _ _ _ (w.trans w2) g s l h, i.kn⟩
theorem Imp.nxTo {A : AEnds} {D : Ends} (i : Imp K B ρ H A D) {P : AD → AK → Prop} {Q : L2.St → Hp → Prop} (h : ImpN K A.n B ρ H P Q) : Imp K B ρ H { A with nx := P } { D with nx := Q } := ⟨h, i.rt, i.bk, i.ct, i.kn⟩
def SS (K : Frg) (t : TS) (f : AS) : Prop := ∀ B ρ δ κ σ H (A : AEnds) (D : Ends), S K B ρ δ σ → G K B ρ κ H → A.n ≤ κ.length → f A δ κ → Imp K B ρ H A D → t D σ H
structure PSa (K : Frg) (X : Cx) (st : Stmt) (t : TS) (f : AS) : Prop where
  ps : PS X st t
  sd : SS K t f
structure PSsa (K : Frg) (X : Cx) (sts : List Stmt) (t : TS) (f : AS) : Prop where
  ps : PSs X sts t
  sd : SS K t f
theorem Up.len (w : Up B ρ H B' ρ' H') (g : G K B ρ κ H) (g' : G K B' ρ' κ' H') : κ.length ≤ κ'.length := by
  rw [← g.len, ← g'.len]
  by_cases h : ρ.length = 0
  · omega
  · have h1 : ρ.length - 1 < ρ.length := by omega
    have := (List.getElem?_eq_some_iff.mp (w.p _ _ (List.getElem?_eq_getElem h1))).1
    omega

/-! ### blocks, simple statements -/
def aNext : AS := fun A δ κ => A.nx δ κ
def aSeq (f g : AS) : AS := fun A δ κ => f { A with nx := g A } δ κ
def aDrop (f : AE) : AS := fun A δ κ => f δ κ fun _ κ1 => A.nx δ κ1
def aRet (f : AE) : AS := fun A δ κ => f δ κ A.rt
def aRetN : AS := fun A _ κ => A.rt (.d .none) κ
def aBrk : AS := fun A δ κ => A.bk δ κ
def aCont : AS := fun A δ κ => A.ct δ κ
def aNever : AS := fun _ _ _ => False
def aIfS (p : AT) (f g : AS) : AS := fun A δ κ => p δ κ fun b κ1 => bsel b (f A δ κ1) (g A δ κ1)
variable {st : Stmt} {rest : List Stmt} {t1 t2 : TS} {f1 g1 : AS} {tc : TT} {pc : AT}
theorem sa_nil : PSsa K X [] tNext aNext := ⟨pss_nil, fun B ρ δ κ σ H A D s g l h i => i.nx _ _ _ _ _ _ UpN.refl g s l h⟩
theorem sa_cons (h1 : PSa K X st t1 f1) (h2 : PSsa K X rest t2 g1) : PSsa K X (st :: rest) (tSeq t1 t2) (aSeq f1 g1) :=
  ⟨pss_cons h1.ps h2.ps, fun B ρ δ κ σ H A D s g l h i => h1.sd B ρ δ κ σ H { A with nx := g1 A } { D with nx := t2 D } s g l h (i.nxTo fun B' ρ' κ' H' δ' σ' w g' s' l' h' => h2.sd _ _ _ _ _ _ _ _ s' g' l' h' (i.later w))⟩
/-- a word between a statement and the rest -/
def aCut (f g : AS) : AS := fun A δ κ => ∃ M : AD → AK → Prop, f { A with nx := M } δ κ ∧ ∀ δ' κ', M δ' κ' → A.n ≤ κ'.length → g A δ' κ'
theorem sa_cut (h1 : PSa K X st t1 f1) (h2 : PSsa K X rest t2 g1) : PSsa K X (st :: rest) (tSeq t1 t2) (aCut f1 g1) :=
  ⟨pss_cons h1.ps h2.ps, fun B ρ δ κ σ H A D s g l ⟨M, h, hM⟩ i => h1.sd B ρ δ κ σ H { A with nx := M } { D with nx := t2 D } s g l h (i.nxTo fun B' ρ' κ' H' δ' σ' w g' s' l' h' => h2.sd _ _ _ _ _ _ _ _ s' g' l' (hM _ _ h' l') (i.later w))⟩
theorem sa_one (h1 : PSa K X st t1 f1) : PSsa K X [st] t1 f1 := ⟨pss_one h1.ps, h1.sd⟩
theorem sa_pass : PSa K X (.Pass pos) tNext aNext := ⟨ps_pass, (sa_nil (X := X)).sd⟩
theorem sa_brk : PSa K X (.Break pos) tBreak aBrk := ⟨ps_break, fun B ρ δ κ σ H A D s g l h i => i.bk _ _ _ _ _ _ UpN.refl g s l h⟩
theorem sa_cont : PSa K X (.Continue pos) tCont aCont := ⟨ps_continue, fun B ρ δ κ σ H A D s g l h i => i.ct _ _ _ _ _ _ UpN.refl g s l h⟩
theorem sa_nevers {sts : List Stmt} : PSsa K X sts tNever aNever := ⟨pss_never, fun B ρ δ κ σ H A D s g l h i => h.elim⟩
theorem sa_never : PSa K X st tNever aNever := ⟨ps_never, fun B ρ δ κ σ H A D s g l h i => h.elim⟩
theorem sa_drop (h : PEa K X e t f) (hs : swapsWith e none pos.line X.env = pure false := by rfl) : PSa K X (.Expr e pos) (tDrop t) (aDrop f) :=
  ⟨ps_expr h.pe hs, fun B ρ δ κ σ H A D s g l hh i => h.sd B ρ δ κ σ H _ _ s g hh fun B' ρ' κ' H' a v w g' r h' => i.nx _ _ _ _ _ _ w.n g' (s.up w.g) (Nat.le_trans l (w.len g g')) h'⟩
theorem sa_ret (h : PEa K X e t f) : PSa K X (.Return (some e) pos) (tRet t) (aRet f) :=
  ⟨ps_ret h.pe, fun B ρ δ κ σ H A D s g l hh i => h.sd B ρ δ κ σ H _ _ s g hh fun B' ρ' κ' H' a v w g' r h' => i.rt _ _ _ _ _ _ w.n g' r (Nat.le_trans l (w.len g g')) h'⟩
theorem sa_retN : PSa K X (.Return none pos) tRetN aRetN := ⟨ps_retN, fun B ρ δ κ σ H A D s g l hh i => i.rt _ _ _ _ _ _ UpN.refl g rp_non l hh⟩
theorem sa_if {c : Expr} {bt bf : List Stmt} {u1 u2 : TS} {k1 k2 : AS} (hc : PTa K X c tc pc) (h1 : PSsa K X bt u1 k1) (h2 : PSsa K X bf u2 k2) : PSa K X (.If c bt bf pos) (tIfS tc u1 u2) (aIfS pc k1 k2) :=
  ⟨ps_if hc.pt h1.ps h2.ps, fun B ρ δ κ σ H A D s g l hh i => hc.sd B ρ δ κ σ H _ _ s g hh fun B' ρ' κ' H' b w g' h' => by
    have l' := Nat.le_trans l (w.len g g')
    cases b with
    | true => exact iteT (h1.sd _ _ _ _ _ _ _ _ (s.up w.g) g' l' h' (i.later w.n))
    | false => exact iteF (h2.sd _ _ _ _ _ _ _ _ (s.up w.g) g' l' h' (i.later w.n))⟩

variable {K : PySem.W.Frag}
/-! ### another description of the same: what is frozen, what is forgotten -/
def GhS (K : PySem.W.Frag) (n : Nat) (δ : AD) (κ : AK) (δ' : AD) (κ' : AK) : Prop := n ≤ κ'.length ∧ ∀ B ρ σ H, S K B ρ δ σ → G (Frg.of K) B ρ κ H → ∃ B' ρ', UpN n B ρ H B' ρ' H ∧ S K B' ρ' δ' σ ∧ G (Frg.of K) B' ρ' κ' H
def aGh (K : PySem.W.Frag) (f : AS) : AS := fun A δ κ => ∃ δ' κ', GhS K A.n δ κ δ' κ' ∧ f A δ' κ'
theorem ss_gh {K : Frg} {t : TS} {f : AS} (h : SS K t f) : SS K t (aGh K f) := fun B ρ δ κ σ H A D s g l ⟨δ', κ', ⟨l', gh⟩, hf⟩ i => by
  obtain ⟨B', ρ', w, s', g'⟩ := gh B ρ σ H s g.plain
  exact h B' ρ' δ' κ' σ H A D s' (g'.zone (K.up _ _ _ _ _ _ (w.mono i.kn) g.z)) l' hf (i.later w)
theorem sa_gh {K : Frg} {sts : List Stmt} (h : PSsa K X sts t1 f1) : PSsa K X sts t1 (aGh K f1) := ⟨h.ps, ss_gh h.sd⟩
theorem sa_gh1 {K : Frg} (h : PSa K X st t1 f1) : PSa K X st t1 (aGh K f1) := ⟨h.ps, ss_gh h.sd⟩
theorem GhS.refl {n : Nat} (l : n ≤ κ.length) : GhS K n δ κ δ κ := ⟨l, fun B ρ σ H s g => ⟨B, ρ, UpN.refl, s, g⟩⟩
theorem GhS.trans {n : Nat} {δ' δ2 : AD} {κ' κ2 : AK} (a : GhS K n δ κ δ' κ') (b : GhS K n δ' κ' δ2 κ2) : GhS K n δ κ δ2 κ2 := ⟨b.1, fun B ρ σ H s g => by
  obtain ⟨B', ρ', w, s', g'⟩ := a.2 B ρ σ H s g
  obtain ⟨B2, ρ2, w2, s2, g2⟩ := b.2 B' ρ' σ H s' g'
  exact ⟨B2, ρ2, w.trans w2, s2, g2⟩⟩
/-- slots forgotten -/
theorem GhS.forget {n : Nat} {δ' : AD} (l : n ≤ κ.length) (hl : δ'.length = δ.length) (h : ∀ (i : Nat) (a : AV), δ'[i]? = some (some a) → δ[i]? = some (some a)) : GhS K n δ κ δ' κ :=
  ⟨l, fun B ρ σ H s g => ⟨B, ρ, UpN.refl, ⟨hl.trans s.len, fun i a e => s.at' i a (h i a e)⟩, g⟩⟩
/-- c k is the datum x from now on -/
def fzA (k : Nat) (x : PyData) : AV → AV
  | .c j => if j = k then .d x else .c j
  | a => a
theorem Rep.fz {q : PyData} (u : Ug B ρ B' ρ) (hk : ∀ p, ρ[k]? = some p → Dp K B' (.ref p) q) {a : AV} {v : V} (r : Rep K B ρ a v) : Rep K B' ρ (fzA k q a) v := by
  cases a with
  | d x => exact Rep.up u r
  | r w => exact r
  | c j =>
    show Rep K B' ρ (if j = k then .d q else .c j) v
    by_cases e : j = k
    · rw [if_pos e]
      obtain ⟨p, hp, rfl⟩ := r
      subst e
      exact hk p hp
    · rw [if_neg e]
      exact Rep.up u r
def fzC (k : Nat) (x : PyData) : Cell → Cell
  | .lst xs => .lst (xs.map (fzA k x))
  | .tup xs => .tup (xs.map (fzA k x))
  | .ins C fs => .ins C (fs.map fun p => (p.1, fzA k x p.2))
  | .dA fs => .dA (fs.map fun p => (p.1, fzA k x p.2))
  | c => c
theorem Reps.fz {q : PyData} (u : Ug B ρ B' ρ) (hk : ∀ p, ρ[k]? = some p → Dp K B' (.ref p) q) : ∀ {as : List AV} {vs : List V}, Reps K B ρ as vs → Reps K B' ρ (as.map (fzA k q)) vs
  | _, _, .nil => .nil
  | _, _, .cons h1 h2 => .cons (h1.fz u hk) (Reps.fz u hk h2)
theorem RepKs.fz {ι : Type} {q : PyData} (u : Ug B ρ B' ρ) (hk : ∀ p, ρ[k]? = some p → Dp K B' (.ref p) q) : ∀ {as : List (ι × AV)} {vs : List (ι × V)}, RepKs K B ρ as vs → RepKs K B' ρ (as.map fun p => (p.1, fzA k q p.2)) vs
  | _, _, .nil => .nil
  | _, _, .cons h1 h2 => .cons ⟨h1.1, h1.2.fz u hk⟩ (RepKs.fz u hk h2)
/-- the list at k is frozen -/
theorem freeze_core (g : G (Frg.of K) B ρ κ H) {xs : List PyData} (ek : κ[k]? = some (.ld xs)) : ∃ B' p, ρ[k]? = some p ∧ Up B ρ H B' ρ H ∧ Dp K B' (.ref p) (.list xs) ∧ G (Frg.of K) B' ρ ((κ.set k .dead).map (fzC k (.list xs))) H := by
  obtain ⟨p, hp, hb, vs, d, eH⟩ := g.cell ek
  have hsame : Same B (upd B p (.lst vs)) := same_upd hb
  have hB : (upd B p (.lst vs)) p = some (.lst vs) := upd_same
  have u : Up B ρ H (upd B p (.lst vs)) ρ H := ⟨hsame, fun _ _ h => h, fun q o h1 h2 h3 => by
    have hq : q ≠ p := fun e => h3 (e ▸ mem_of_get hp)
    rw [upd_ne hq]; exact ⟨h1, h2, h3⟩⟩
  have dd : Dp K (upd B p (.lst vs)) (.ref p) (.list xs) := .lst (.inl (.inl hB)) (dpa_up hsame _ _ d)
  have hk : ∀ q, ρ[k]? = some q → Dp K (upd B p (.lst vs)) (.ref q) (.list xs) := fun q hq => by rw [hp] at hq; cases hq; exact dd
  refine ⟨_, p, hp, u, dd, ⟨fun b o e => ?_, by simp [g.len], g.inj, fun i q c h1 h2 => ?_, True.intro⟩⟩
  · by_cases hbp : b = p
    · subst hbp; rw [upd_same] at e; rw [eH]; exact e
    · rw [upd_ne hbp] at e; exact g.ex b o e
  · rw [List.getElem?_map] at h2
    by_cases e : k = i
    · subst e
      rw [hp] at h1; cases h1
      rw [List.getElem?_set_self (List.getElem?_eq_some_iff.mp ek).1] at h2
      cases h2
      show H p ≠ none
      rw [eH]; simp
    · rw [List.getElem?_set_ne e] at h2
      have hq : q ≠ p := fun z => by subst z; exact e (g.inj k i q hp h1)
      obtain ⟨c0, hc0, rfl⟩ := Option.map_eq_some_iff.mp h2
      have ok := g.at' i q c0 h1 hc0
      have hbq : ∀ {z}, B q = z → upd B p (.lst vs) q = z := fun h => by rw [upd_ne hq]; exact h
      cases c0 with
      | dead => exact ok
      | ld ys => obtain ⟨n, ws, r, e⟩ := ok; exact ⟨hbq n, ws, dpa_up hsame _ _ r, e⟩
      | lst ys => obtain ⟨n, ws, r, e⟩ := ok; exact ⟨hbq n, ws, Reps.fz u.g hk r, e⟩
      | tup ys => obtain ⟨ws, r, e⟩ := ok; exact ⟨ws, Reps.fz u.g hk r, e⟩
      | dK ys => obtain ⟨n, ws, r, e⟩ := ok; exact ⟨hbq n, ws, DpKs.up hsame r, e⟩
      | dT ys => obtain ⟨n, ws, r, e⟩ := ok; exact ⟨hbq n, ws, DpKs.up hsame r, e⟩
      | ins C ys => obtain ⟨n, dx, ws, r, e⟩ := ok; exact ⟨hbq n, dx, ws, RepKs.fz u.g hk r, e⟩
      | dA ys => obtain ⟨n, ws, r, e⟩ := ok; exact ⟨hbq n, ws, RepKs.fz u.g hk r, e⟩
      | ho o => obtain ⟨n, nt, e⟩ := ok; exact ⟨hbq n, nt, e⟩
      | xo φ => obtain ⟨n, o, nt, e, r⟩ := ok; exact ⟨hbq n, o, nt, e, fun B2 s2 => r B2 (hsame.trans s2)⟩
      | fk od vs kvs => obtain ⟨n, r, e⟩ := ok; exact ⟨hbq n, DpKs.up hsame r, e⟩
theorem GhS.freeze {n : Nat} (l : n ≤ κ.length) (k : Nat) (xs : List PyData) (ek : κ[k]? = some (.ld xs)) : GhS K n δ κ (δ.map (Option.map (fzA k (.list xs)))) ((κ.set k .dead).map (fzC k (.list xs))) := by
  refine ⟨by simpa using l, fun B ρ σ H s g => ?_⟩
  obtain ⟨B', p, hp, u, dd, g'⟩ := freeze_core g ek
  refine ⟨B', ρ, u.n, ⟨by simpa using s.len, fun i a e => ?_⟩, g'⟩
  rw [List.getElem?_map] at e
  obtain ⟨o, ho, e⟩ := Option.map_eq_some_iff.mp e
  obtain ⟨a0, rfl, rfl⟩ := Option.map_eq_some_iff.mp e
  obtain ⟨v, e1, r⟩ := s.at' i a0 ho
  exact ⟨v, e1, r.fz u.g fun q hq => by rw [hp] at hq; cases hq; exact dd⟩
/-- references below n -/
def okA (n : Nat) : AV → Bool
  | .c k => decide (k < n)
  | _ => true
def okC (n : Nat) : Cell → Bool
  | .lst xs => xs.all (okA n)
  | .tup xs => xs.all (okA n)
  | .ins _ fs => fs.all fun p => okA n p.2
  | .dA fs => fs.all fun p => okA n p.2
  | _ => true
theorem Rep.cut {m : Nat} (h : okA m a = true) (r : Rep K B ρ a v) : Rep K B (ρ.take m) a v := by
  cases a with
  | d x => exact r
  | r w => exact r
  | c j =>
    obtain ⟨p, hp, e⟩ := r
    have hj : j < m := of_decide_eq_true h
    exact ⟨p, by rw [List.getElem?_take_of_lt hj]; exact hp, e⟩
theorem Reps.cutR {m : Nat} : ∀ {as : List AV} {vs : List V}, as.all (okA m) = true → Reps K B ρ as vs → Reps K B (ρ.take m) as vs
  | _, _, _, .nil => .nil
  | _, _, h, .cons h1 h2 => by
    rw [List.all_cons, Bool.and_eq_true] at h
    exact .cons (h1.cut h.1) (Reps.cutR h.2 h2)
theorem RepKs.cutR {ι : Type} {m : Nat} : ∀ {as : List (ι × AV)} {vs : List (ι × V)}, (as.all fun p => okA m p.2) = true → RepKs K B ρ as vs → RepKs K B (ρ.take m) as vs
  | _, _, _, .nil => .nil
  | _, _, h, .cons h1 h2 => by
    rw [List.all_cons, Bool.and_eq_true] at h
    exact .cons ⟨h1.1, h1.2.cut h.1⟩ (RepKs.cutR h.2 h2)
theorem G.take (g : G (Frg.of K) B ρ κ H) (m : Nat) (h : (κ.take m).all (okC m) = true) : G (Frg.of K) B (ρ.take m) (κ.take m) H := by
  refine ⟨g.ex, by rw [List.length_take, List.length_take, g.len], fun i j p h1 h2 => ?_, fun i p c h1 h2 => ?_, True.intro⟩
  · have e1 : ρ[i]? = some p := by
      have := (List.getElem?_eq_some_iff.mp h1).1
      rw [List.length_take] at this
      rw [List.getElem?_take_of_lt (by omega)] at h1; exact h1
    have e2 : ρ[j]? = some p := by
      have := (List.getElem?_eq_some_iff.mp h2).1
      rw [List.length_take] at this
      rw [List.getElem?_take_of_lt (by omega)] at h2; exact h2
    exact g.inj i j p e1 e2
  · have hi : i < m := by
      have := (List.getElem?_eq_some_iff.mp h1).1
      rw [List.length_take] at this; omega
    have hc : okC m c = true := List.all_eq_true.mp h c (mem_of_get h2)
    rw [List.getElem?_take_of_lt hi] at h1 h2
    have ok := g.at' i p c h1 h2
    cases c with
    | dead => exact ok
    | ld ys => exact ok
    | lst ys => obtain ⟨n, ws, r, e⟩ := ok; exact ⟨n, ws, Reps.cutR hc r, e⟩
    | tup ys => obtain ⟨ws, r, e⟩ := ok; exact ⟨ws, Reps.cutR hc r, e⟩
    | dK ys => exact ok
    | dT ys => exact ok
    | ins C ys => obtain ⟨n, dx, ws, r, e⟩ := ok; exact ⟨n, dx, ws, RepKs.cutR hc r, e⟩
    | dA ys => obtain ⟨n, ws, r, e⟩ := ok; exact ⟨n, ws, RepKs.cutR hc r, e⟩
    | ho o => exact ok
    | xo φ => exact ok
    | fk od ws kvs => exact ok
theorem UpN.take {n m : Nat} (h : n ≤ m) : UpN n B ρ H B (ρ.take m) H := ⟨Same.refl B, fun i a hi e => by rw [List.getElem?_take_of_lt (Nat.lt_of_lt_of_le hi h)]; exact e, fun p o h1 h2 h3 => ⟨h1, h2, fun z => h3 (List.mem_of_mem_take z)⟩⟩
def okD (n : Nat) (δ : AD) : Bool := δ.all fun o => match o with
  | some a => okA n a
  | none => true
/-- the cells from m on are forgotten -/
theorem GhS.take {n : Nat} (m : Nat) (l : n ≤ m) (l2 : m ≤ κ.length) (h : (κ.take m).all (okC m) = true) (hd : okD m δ = true) : GhS K n δ κ δ (κ.take m) := by
  refine ⟨by rw [List.length_take]; omega, fun B ρ σ H s g => ⟨B, ρ.take m, UpN.take l, ⟨s.len, fun i a e => ?_⟩, g.take m h⟩⟩
  obtain ⟨v, e1, r⟩ := s.at' i a e
  have := List.all_eq_true.mp hd (some a) (mem_of_get e)
  exact ⟨v, e1, r.cut this⟩
/-- of a value -/
def GhR (K : PySem.W.Frag) (n : Nat) (a : AV) (κ : AK) (a' : AV) (κ' : AK) : Prop := n ≤ κ'.length ∧ ∀ B ρ H v, G (Frg.of K) B ρ κ H → Rep K B ρ a v → ∃ B' ρ', UpN n B ρ H B' ρ' H ∧ Rep K B' ρ' a' v ∧ G (Frg.of K) B' ρ' κ' H
theorem GhR.refl {n : Nat} (l : n ≤ κ.length) : GhR K n a κ a κ := ⟨l, fun B ρ H v g r => ⟨B, ρ, UpN.refl, r, g⟩⟩
theorem GhR.trans {n : Nat} {a' a2 : AV} {κ' κ2 : AK} (x : GhR K n a κ a' κ') (y : GhR K n a' κ' a2 κ2) : GhR K n a κ a2 κ2 := ⟨y.1, fun B ρ H v g r => by
  obtain ⟨B', ρ', w, s', g'⟩ := x.2 B ρ H v g r
  obtain ⟨B2, ρ2, w2, s2, g2⟩ := y.2 B' ρ' H v g' s'
  exact ⟨B2, ρ2, w.trans w2, s2, g2⟩⟩
theorem GhR.freeze {n : Nat} (l : n ≤ κ.length) (k : Nat) (xs : List PyData) (ek : κ[k]? = some (.ld xs)) : GhR K n a κ (fzA k (.list xs) a) ((κ.set k .dead).map (fzC k (.list xs))) := by
  refine ⟨by simpa using l, fun B ρ H v g r => ?_⟩
  obtain ⟨B', p, hp, u, dd, g'⟩ := freeze_core g ek
  exact ⟨B', ρ, u.n, r.fz u.g fun q hq => by rw [hp] at hq; cases hq; exact dd, g'⟩
theorem GhR.take {n : Nat} (m : Nat) (l : n ≤ m) (l2 : m ≤ κ.length) (h : (κ.take m).all (okC m) = true) (hd : okA m a = true) : GhR K n a κ a (κ.take m) :=
  ⟨by rw [List.length_take]; omega, fun B ρ H v g r => ⟨B, ρ.take m, UpN.take l, r.cut hd, g.take m h⟩⟩
end Ab
set_option Elab.async false
set_option linter.all false
set_option maxRecDepth 100000
set_option maxHeartbeats 4000000
/-! Ab5: targets, what is walked, loops, comprehensions -/
namespace Ab
open PySem L2
variable {K : Frg} {B B' B2 H H' H2 : Hp} {ρ ρ' ρ2 : List Addr} {κ κ' : AK} {δ : AD} {σ : L2.St} {p : Addr} {k : Nat} {v x y z : V} {a b c : AV}
variable {X : Cx} {e e2 : Expr} {t u : TE} {f f2 : AE} {pos : Pos}

/-! ### targets -/
abbrev AG := AV → AD → AK → (AD → AK → Prop) → Prop
abbrev AGs := List AV → AD → AK → (AD → AK → Prop) → Prop
def SG (K : Frg) (t : TG) (g : AG) : Prop := ∀ B ρ δ κ σ H a v (R : AD → AK → Prop) (Q : L2.St → Hp → Prop), S K B ρ δ σ → G K B ρ κ H → Rep K B ρ a v → g a δ κ R →
  (∀ B' ρ' δ' κ' σ' H', Up B ρ H B' ρ' H' → S K B' ρ' δ' σ' → G K B' ρ' κ' H' → R δ' κ' → Q σ' H') → t v σ H Q
def SGs (K : Frg) (t : TGs) (g : AGs) : Prop := ∀ B ρ δ κ σ H as vs (R : AD → AK → Prop) (Q : L2.St → Hp → Prop), S K B ρ δ σ → G K B ρ κ H → Reps K B ρ as vs → g as δ κ R →
  (∀ B' ρ' δ' κ' σ' H', Up B ρ H B' ρ' H' → S K B' ρ' δ' σ' → G K B' ρ' κ' H' → R δ' κ' → Q σ' H') → t vs σ H Q
structure PGa (K : Frg) (X : Cx) (tg : Expr) (t : TG) (g : AG) : Prop where
  pg : PG X tg t
  sd : SG K t g
structure PGsa (K : Frg) (X : Cx) (tgs : List Expr) (t : TGs) (g : AGs) : Prop where
  pg : PGs X tgs t
  sd : SGs K t g
def aName (i : Nat) : AG := fun a δ κ R => R (δ.set i (some a)) κ
def aGNil : AGs := fun as δ κ R => match as with
  | [] => R δ κ
  | _ => False
def aGCons (g : AG) (gs : AGs) : AGs := fun as δ κ R => match as with
  | a :: r => g a δ κ fun δ' κ' => gs r δ' κ' R
  | [] => False
/-- a tuple is taken apart -/
def aGTup (n : Nat) (gs : AGs) : AG := fun a δ κ R => match a with
  | .d (.tuple ds) => ds.length = n ∧ gs (ds.map .d) δ κ R
  | .c k => match κ[k]? with
    | some (.tup xs) => xs.length = n ∧ gs xs δ κ R
    | _ => False
  | _ => False
theorem ga_name {i : Nat} {x : Str} (hN : X.N.Nodup) (hi : X.N[i]? = some x) (hx : Loc X.env.scope x) (hf : X.fn x = true ∨ X.env.scope.names.lookup x = some .local := by first | exact .inl rfl | exact .inr rfl | assumption) : PGa K X (.Name x pos) (gName i) (aName i) :=
  ⟨pg_name hN hi hx hf, fun B ρ δ κ σ H a v R Q s g r h q => q _ _ _ _ _ _ Up.refl (s.set r) g h⟩
variable {es : List Expr} {tg : TG} {tgs : TGs} {ag : AG} {ags : AGs}
theorem gsa_nil : PGsa K X [] gNil aGNil := ⟨pgs_nil, fun B ρ δ κ σ H as vs R Q s g r h q => by
  unfold aGNil at h
  split at h
  · cases r; exact ⟨rfl, q _ _ _ _ _ _ Up.refl s g h⟩
  · exact h.elim⟩
theorem gsa_cons (h1 : PGa K X e tg ag) (h2 : PGsa K X es tgs ags) (hs : (assignEach (e :: es) X.env).map (·.2) = assign e X.env :: (assignEach es X.env).map (·.2) := by rfl) : PGsa K X (e :: es) (gCons tg tgs) (aGCons ag ags) :=
  ⟨pgs_cons h1.pg h2.pg hs, fun B ρ δ κ σ H as vs R Q s g r h q => by
    unfold aGCons at h
    split at h
    · cases r with
      | cons r1 r2 =>
        exact ⟨_, _, rfl, h1.sd _ _ _ _ _ _ _ _ _ _ s g r1 h fun B' ρ' δ' κ' σ' H' w s' g' h' => h2.sd _ _ _ _ _ _ _ _ _ _ s' g' (Reps.up w.g r2) h' fun _ _ _ _ _ _ w2 s2 g2 k2 => q _ _ _ _ _ _ (w.trans w2) s2 g2 k2⟩
    · exact h.elim⟩
theorem ga_tup {kk : Nat} {n : Nat} (hc : X.calm = true) (h : PGsa K X es tgs ags) (hn : (assignEach es X.env).length = n := by rfl) (hst : (assignEach es X.env).findIdx? (·.1) = none := by rfl) (hK : X.K = K := by rfl) : PGa K X (.Tuple es kk pos) (gTup K n tgs) (aGTup n ags) := by
  obtain ⟨K, Kn, KZ, Ku⟩ := K
  change X.K = K at hK
  subst hK
  exact ⟨pg_tup hc h.pg hn hst, fun B ρ δ κ σ H a v R Q s g r hh q => by
    unfold aGTup at hh
    split at hh
    · obtain ⟨p, vs, rfl, s1, d1⟩ := of_tupG g r
      exact ⟨p, vs, rfl, s1, by rw [dpa_len d1]; exact hh.1, h.sd _ _ _ _ _ _ _ _ _ _ s g (Reps.all d1) hh.2 q⟩
    · obtain ⟨p, hp, rfl⟩ := r
      split at hh
      · rename_i xs ek
        obtain ⟨p', hp', vs, r, eH⟩ := g.cell ek
        rw [hp] at hp'; cases hp'
        exact ⟨p, vs, rfl, .inl (.inl eH), by rw [← r.len]; exact hh.1, h.sd _ _ _ _ _ _ _ _ _ _ s g r hh.2 q⟩
      · exact hh.elim
    · exact hh.elim⟩
/-- o[i] = v -/
abbrev ASet := AV → AV → AV → AK → (AK → Prop) → Prop
def SSet (K : Frg) (t : TSet) (f : ASet) : Prop := ∀ B ρ κ H o i v ao ai a (R : AK → Prop) (Q : Hp → Prop), G K B ρ κ H → Rep K B ρ ao o → Rep K B ρ ai i → Rep K B ρ a v → f ao ai a κ R →
  (∀ B' ρ' κ' H', Up B ρ H B' ρ' H' → G K B' ρ' κ' H' → R κ' → Q H') → t o i v H Q
structure SetA (K : Frg) (X : Cx) (t : TSet) (f : ASet) : Prop where
  s : PSet X t
  sd : SSet K t f
def aGSub (fo fi : AE) (fs : ASet) : AG := fun a δ κ R => fo δ κ fun o κ1 => fi δ κ1 fun i κ2 => fs o i a κ2 fun κ3 => R δ κ3
theorem ga_sub {o i : Expr} {to ti : TE} {ts : TSet} {fo fi : AE} {fs : ASet} (ho : PEa K X o to fo) (hi : PEa K X i ti fi) (hs : SetA K X ts fs)
    (ha : ∀ v, assign (.Subscript o i pos) X.env v = (do
      let ov ← holding [v] (eval o X.env)
      let iv ← holding [v, ov] (eval i X.env)
      standAt pos
      holding [v, ov, iv] (setItem ov iv v)
      release [v, ov, iv] []) := by intro _; rfl) : PGa K X (.Subscript o i pos) (gSub to ti ts) (aGSub fo fi fs) :=
  ⟨pg_sub ho.pe hi.pe hs.s ha, fun B ρ δ κ σ H a v R Q s g r h q => ho.sd _ _ _ _ _ _ _ _ s g h fun B1 ρ1 κ1 H1 ao vo w1 g1 r1 h1 => hi.sd _ _ _ _ _ _ _ _ (s.up w1.g) g1 h1 fun B2 ρ2 κ2 H2 ai vi w2 g2 r2 h2 =>
    hs.sd _ _ _ _ _ _ _ _ _ _ _ _ g2 (r1.up w2.g) r2 (r.up (w1.trans w2).g) h2 fun B3 ρ3 κ3 H3 w3 g3 h3 => q _ _ _ _ _ _ ((w1.trans w2).trans w3) (s.up ((w1.trans w2).trans w3).g) g3 h3⟩
def aSetL : ASet := fun o i a κ R => match o, i with
  | .c k, .d (.int i) => match κ[k]?, a with
    | some (.ld xs), .d x => ∃ j, ixN xs.length i = some j ∧ R (κ.set k (.ld (xs.set j x)))
    | some (.lst xs), a => ∃ j, ixN xs.length i = some j ∧ R (κ.set k (.lst (xs.set j a)))
    | _, _ => False
  | _, _ => False
theorem dpa_set : ∀ {ds : List PyData} {vs : List V} (i : Nat) {d : PyData} {v : V}, DpAll K B vs ds → Dp K B v d → DpAll K B (vs.set i v) (ds.set i d)
  | [], _, _, _, _, h, _ => by cases h; exact .nil
  | d :: ds, _, i, _, _, h, r => by
    cases h with
    | cons h1 h2 =>
      cases i with
      | zero => exact .cons r h2
      | succ i => exact .cons h1 (dpa_set i h2 r)
theorem sta_list : SetA K X rSetL aSetL := ⟨set_list, fun B ρ κ H o i v ao ai a R Q g ro ri rv h q => by
  unfold aSetL at h
  split at h
  · obtain ⟨p, hp, rfl⟩ := ro
    cases ri.int
    split at h
    · rename_i xs x ek
      obtain ⟨j, hj, h⟩ := h
      obtain ⟨vs, r, eH, wr⟩ := g.ldAt hp ek
      obtain ⟨w, g'⟩ := wr _ _ (dpa_set j r rv)
      exact ⟨p, vs, _, j, rfl, rfl, eH, by rw [dpa_len r]; exact hj, q _ _ _ _ w g' h⟩
    · rename_i xs a ek
      obtain ⟨j, hj, h⟩ := h
      obtain ⟨vs, r, eH, wr⟩ := g.lstAt hp ek
      obtain ⟨w, g'⟩ := wr _ _ (r.set j rv)
      exact ⟨p, vs, _, j, rfl, rfl, eH, by rw [← r.len]; exact hj, q _ _ _ _ w g' h⟩
    · exact h.elim
  · exact h.elim⟩

/-! ### assignments -/
def aAsg (f : AE) (g : AG) : AS := fun A δ κ => f δ κ fun a κ1 => g a δ κ1 A.nx
abbrev aSet (i : Nat) (f : AE) : AS := aAsg f (aName i)
theorem ss_asg (h : SE K t f) (hg : SG K tg ag) : SS K (tAsg t tg) (aAsg f ag) := fun B ρ δ κ σ H A D s g l hh i => h B ρ δ κ σ H _ _ s g hh fun B1 ρ1 κ1 H1 a v w1 g1 r1 h1 =>
  hg _ _ _ _ _ _ _ _ _ _ (s.up w1.g) g1 r1 h1 fun B2 ρ2 δ2 κ2 σ2 H2 w2 s2 g2 h2 => i.nx _ _ _ _ _ _ (w1.trans w2).n g2 s2 (Nat.le_trans l ((w1.trans w2).len g g2)) h2
theorem sa_asg {tge : Expr} (h : PEa K X e t f) (hg : PGa K X tge tg ag) (hs : swapsWithSole [tge] e pos.line X.env = pure false := by rfl) (hw : swappedStores [tge] e X.env = pure none := by rfl)
    (h1 : (assignEach [tge] X.env).map (·.2) = [assign tge X.env] := by rfl) : PSa K X (.Assign [tge] e pos) (tAsg t tg) (aAsg f ag) := ⟨ps_asg h.pe hg.pg hs hw h1, ss_asg h.sd hg.sd⟩
theorem sg_name {i : Nat} : SG K (gName i) (aName i) := fun B ρ δ κ σ H a v R Q s g r h q => q _ _ _ _ _ _ Up.refl (s.set r) g h
theorem sa_set {i : Nat} {x : Str} {pos' : Pos} (hN : X.N.Nodup) (hi : X.N[i]? = some x) (hx : Loc X.env.scope x) (h : PEa K X e t f) (hs : swapsWith e (some (.Name x pos')) pos.line X.env = pure false := by rfl) (hf : X.fn x = true ∨ X.env.scope.names.lookup x = some .local := by first | exact .inl rfl | exact .inr rfl | assumption) :
    PSa K X (.Assign [.Name x pos'] e pos) (tAsg t (gName i)) (aSet i f) := ⟨ps_set hN hi hx h.pe hs hf, ss_asg h.sd sg_name⟩
/-- x += e -/
def aAug (i : Nat) (f : AE) (o : AO) : AS := fun A δ κ => match δ[i]? with
  | some (some a) => f δ κ fun b κ1 => o a b κ1 fun c κ2 => A.nx (δ.set i (some c)) κ2
  | _ => False
theorem sa_aug {i : Nat} {x : Str} {pos' : Pos} {op : Operator} {ti : TIp} {o : AO} (hN : X.N.Nodup) (hi : X.N[i]? = some x) (hx : Loc X.env.scope x) (h : PEa K X e t f) (ho : PIp X op ti) (hs : SR K ti o)
    (hf : X.fn x = true ∨ X.env.scope.names.lookup x = some .local := by first | exact .inl rfl | exact .inr rfl | assumption) : PSa K X (.AugAssign (.Name x pos') op e pos) (tAug i t ti) (aAug i f o) :=
  ⟨ps_aug hN hi hx h.pe ho hf, fun B ρ δ κ σ H A D s g l hh im => by
    unfold aAug at hh
    split at hh
    · rename_i a ea
      obtain ⟨v, ev, r⟩ := s.at' i a ea
      refine ⟨v, ev, h.sd B ρ δ κ σ H _ _ s g hh fun B1 ρ1 κ1 H1 b vb w1 g1 r1 h1 => ?_⟩
      refine hs _ _ _ _ _ _ _ _ _ _ g1 (r.up w1.g) r1 h1 fun B2 ρ2 κ2 H2 c vc w2 g2 r2 h2 => ?_
      exact im.nx _ _ _ _ _ _ (w1.trans w2).n g2 ((s.up (w1.trans w2).g).set r2) (Nat.le_trans l ((w1.trans w2).len g g2)) h2
    · exact hh.elim⟩
theorem sr_ipI {f : Int → Int → Int} : SR K (ipI f) (aI0 f) := sr_I0
theorem sa_inc {i : Nat} {x : Str} {pos' : Pos} (hN : X.N.Nodup) (hi : X.N[i]? = some x) (hx : Loc X.env.scope x) (h : PEa K X e t f)
    (hf : X.fn x = true ∨ X.env.scope.names.lookup x = some .local := by first | exact .inl rfl | exact .inr rfl | assumption) : PSa K X (.AugAssign (.Name x pos') .Add e pos) (tAug i t (ipI fun i j => i + j)) (aAug i f (aI0 fun i j => i + j)) := sa_aug hN hi hx h ip_add sr_ipI hf

/-! ### while -/
variable {t1 t2 : TS} {f1 g1 : AS} {tc : TT} {pc : AT}
def aWhile (p : AT) (f : AS) : AS := fun A δ κ => ∃ W : Nat → AD → AK → Prop, (∃ m, W m δ κ) ∧ ∀ m δ' κ', W m δ' κ' → κ.length ≤ κ'.length →
  p δ' κ' fun b κ1 => bsel b (∃ N : AD → AK → Prop, (∀ δ2 κ2, N δ2 κ2 → ∃ m', m' < m ∧ W m' δ2 κ2) ∧ f { n := κ.length, nx := N, ct := N, bk := A.nx, rt := A.rt } δ' κ1) (A.nx δ' κ1)
/-- a later state, seen from the loop's start -/
def Later (K : Frg) (B : Hp) (ρ : List Addr) (H : Hp) (n : Nat) (P : AD → AK → Prop) (σ : L2.St) (H' : Hp) : Prop := ∃ B' ρ' δ' κ', UpN n B ρ H B' ρ' H' ∧ S K B' ρ' δ' σ ∧ G K B' ρ' κ' H' ∧ n ≤ κ'.length ∧ P δ' κ'
theorem sa_while {c : Expr} {body : List Stmt} (hp : PassesOwn (model X.prog X.w) X.A X.env X.xe) (hc : PTa K X c tc pc) (hb : PSsa K X body t1 f1) : PSa K X (.While c body [] pos) (tWhile tc t1) (aWhile pc f1) :=
  ⟨ps_while hp hc.pt hb.ps, fun B ρ δ κ σ H A D s g l ⟨W, ⟨m0, w0⟩, turn⟩ im => by
    refine ⟨fun m σ' H' => Later K B ρ H κ.length (W m) σ' H', ⟨m0, B, ρ, δ, κ, UpN.refl, s, g, Nat.le_refl _, w0⟩, fun m σ' H' hW => ?_⟩
    obtain ⟨B1, ρ1, δ1, κ1, w1, s1, g1, l1, hw⟩ := hW
    refine hc.sd B1 ρ1 δ1 κ1 σ' H' _ _ s1 g1 (turn m δ1 κ1 hw l1) fun B2 ρ2 κ2 H2 b w2 g2 h2 => ?_
    have l2 : κ.length ≤ κ2.length := Nat.le_trans l1 (w2.len g1 g2)
    have w12 : UpN κ.length B ρ H B2 ρ2 H2 := w1.trans w2.n
    have im2 := im.later (w12.mono l)
    cases b with
    | false => exact iteF (im.nx _ _ _ _ _ _ (w12.mono l) g2 (s1.up w2.g) (Nat.le_trans l l2) h2)
    | true =>
      obtain ⟨N, hN, h2⟩ := h2
      refine iteT ⟨fun σ3 H3 => Later K B ρ H κ.length N σ3 H3, ?_, ?_⟩
      · rintro σ3 H3 ⟨B3, ρ3, δ3, κ3, w3, s3, g3, l3, hn⟩
        obtain ⟨m', hm, hw'⟩ := hN _ _ hn
        exact ⟨m', hm, B3, ρ3, δ3, κ3, w3, s3, g3, l3, hw'⟩
      · refine hb.sd B2 ρ2 δ1 κ2 σ' H2 _ _ (s1.up w2.g) g2 l2 h2 ⟨?_, ?_, ?_, ?_, Nat.le_trans im.kn l⟩
        · exact fun B3 ρ3 κ3 H3 δ3 σ3 w3 g3 s3 l3 h3 => ⟨B3, ρ3, δ3, κ3, w12.trans w3, s3, g3, l3, h3⟩
        · exact fun B3 ρ3 κ3 H3 a v w3 g3 r3 l3 h3 => im.rt _ _ _ _ _ _ ((w12.trans w3).mono l) g3 r3 (Nat.le_trans l l3) h3
        · exact fun B3 ρ3 κ3 H3 δ3 σ3 w3 g3 s3 l3 h3 => im.nx _ _ _ _ _ _ ((w12.trans w3).mono l) g3 s3 (Nat.le_trans l l3) h3
        · exact fun B3 ρ3 κ3 H3 δ3 σ3 w3 g3 s3 l3 h3 => ⟨B3, ρ3, δ3, κ3, w12.trans w3, s3, g3, l3, h3⟩⟩

/-! ### what is walked -/
structure AIt where
  go : Nat → AK → Prop
  yld : Nat → AK → AV → Prop
  stop : Nat → AK → Prop
def RI (K : Frg) (B : Hp) (ρ : List Addr) (H : Hp) (J : It) (Ja : AIt) : Prop := ∀ B2 ρ2 κ2 H2, Up B ρ H B2 ρ2 H2 → G K B2 ρ2 κ2 H2 → ∀ i, (Ja.stop i κ2 → J.stop i H2) ∧
  (Ja.go i κ2 → J.go i H2 ∧ ∀ x H3, J.yld i H2 x H3 → ∃ B3 a, Up B2 ρ2 H2 B3 ρ2 H3 ∧ G K B3 ρ2 κ2 H3 ∧ Rep K B3 ρ2 a x ∧ Ja.yld i κ2 a)
abbrev AI := AD → AK → (AIt → AK → Prop) → Prop
def SI (K : Frg) (wi : TI) (ai : AI) : Prop := ∀ B ρ δ κ σ H (R : AIt → AK → Prop) (Q : It → Hp → Prop), S K B ρ δ σ → G K B ρ κ H → ai δ κ R →
  (∀ B' ρ' κ' H' J Ja, Up B ρ H B' ρ' H' → G K B' ρ' κ' H' → RI K B' ρ' H' J Ja → R Ja κ' → Q J H') → wi σ H Q
structure PIa (K : Frg) (X : Cx) (tg iter : Expr) (wi : TI) (ai : AI) : Prop where
  pi : PI X tg iter wi
  sd : SI K wi ai
/-- known items -/
def itD (xs : List PyData) : AIt := ⟨fun i _ => i < xs.length, fun i _ a => ∃ x, xs[i]? = some x ∧ a = .d x, fun i _ => xs.length ≤ i⟩
/-- the list at k, as it stands at each turn -/
def itC (k : Nat) : AIt := ⟨fun i κ => ∃ xs, κ[k]? = some (.ld xs) ∧ i < xs.length, fun i κ a => ∃ xs x, κ[k]? = some (.ld xs) ∧ xs[i]? = some x ∧ a = .d x, fun i κ => ∃ xs, κ[k]? = some (.ld xs) ∧ xs.length ≤ i⟩
def itR (lo : Int) (n : Nat) : AIt := ⟨fun i _ => i < n, fun i _ a => a = .d (.int (lo + i)), fun i _ => n ≤ i⟩
def itS (s : Str) : AIt := ⟨fun i _ => i < s.cps.size, fun i _ a => ∃ c, s.cps[i]? = some c ∧ a = .d (.str ⟨#[c]⟩), fun i _ => s.cps.size ≤ i⟩
def aIter (f : AE) : AI := fun δ κ R => f δ κ fun a κ1 => match a with
  | .d (.list xs) => R (itD xs) κ1
  | .d (.tuple xs) => R (itD xs) κ1
  | .d (.str s) => R (itS s) κ1
  | .c k => match κ1[k]? with
    | some (.ld _) => R (itC k) κ1
    | _ => False
  | _ => False
/-- a list, a tuple, a text: told by the value -/
def iAny (K : PySem.W.Frag) (tl : TE) : TI := fun σ H R => tl σ H fun w H1 =>
  (∃ a, w = .ref a ∧ (∃ ys, SqL K H1 a ys) ∧ R (Itl K a) H1) ∨ (∃ a, w = .ref a ∧ (∃ ys, SqT K H1 a ys) ∧ R (Itt K a) H1) ∨ ∃ z, w = .str z ∧ R (Its z) H1
theorem fresh_in {X : Cx} {pins : List (Addr × Obj)} {τ : L2.St} {H1 : Hp} {s1 : Shared} (I1 : Inv X pins τ H1 s1) {b : Addr} (hb : b ∈ [s1.heap.objs.size]) : FpOk X pins H1 b := by
  rcases List.mem_singleton.mp hb with rfl
  exact I1.fpOk Nat.le.refl (I1.hok.fresh Nat.le.refl)
theorem pi_any {X : Cx} {tge l : Expr} {tl : TE} (hl : PE X l tl) : PI X tge l (iAny X.K tl) := by
  constructor
  intro pins s τ H R I hw
  refine thn (hl.run pins s τ H _ I hw) ?_
  rintro u s1 ⟨w, H1, I1, ru, hq⟩
  rcases hq with ⟨a, rfl, ⟨ys, hy⟩, q⟩ | ⟨a, rfl, ⟨ys, hy⟩, q⟩ | ⟨z, rfl, q⟩
  · cases ru
    have ⟨its, _, pl, _⟩ := I1.list hy
    exact wpAny_pyIter_list pl.isList ⟨_, [s1.heap.objs.size], _, _, _, rfl, I1.kept fun _ _ => Heap.get?_push_of_some _, turn_list a _, ⟨_, Heap.get?_push_size _ rfl, rfl, rfl⟩, fun _ => fresh_in I1, q⟩
  · cases ru
    have ⟨its, _, pt, _⟩ := I1.tuple hy
    exact wpAny_pyIter_tuple pt ⟨_, [s1.heap.objs.size], _, _, _, rfl, I1.kept fun _ _ => Heap.get?_push_of_some _, turn_tuple a _, ⟨_, Heap.get?_push_size _ rfl, rfl, rfl⟩, fun _ => fresh_in I1, q⟩
  · obtain ⟨tk, rfl⟩ := ru
    by_cases hz : z.cps.all (· < 128) = true
    · exact wpAny_pyIter_ascii hz (pi_one (tk := s1.toks) I1 _ (turn_str _ z tk "str_ascii_iterator" (Or.inl rfl)) ⟨_, Heap.get?_push_size _ rfl, rfl, rfl⟩ q)
    · have hz' : z.cps.all (· < 128) = false := by simpa using hz
      exact wpAny_pyIter_wide hz' (pi_one (tk := s1.toks) I1 _ (turn_str _ z tk "str_iterator" (Or.inr rfl)) ⟨_, Heap.get?_push_size _ rfl, rfl, rfl⟩ q)
theorem getLt {α : Type} {l : List α} {i : Nat} (h : i < l.length) : l[i]? = some l[i] := List.getElem?_eq_getElem h
theorem ri_list {xs : List PyData} {p : Addr} {vs : List V} (hs : SqL K B p vs) (d : DpAll K B vs xs) : RI K B ρ H (Itl K p) (itD xs) := by
  intro B2 ρ2 κ2 H2 w2 g2 i
  have hs2 : SqL K H2 p vs := g2.ex.seq (w2.s.seq hs)
  have hl := dpa_len d
  refine ⟨fun h => ⟨vs, hs2, by rw [hl]; exact h⟩, fun h => ?_⟩
  obtain ⟨w, hw, r⟩ := dpa_get d (getLt h)
  refine ⟨⟨vs, w, hs2, hw⟩, fun x H3 hy => ?_⟩
  obtain ⟨rfl, f⟩ := hy
  have e := (f vs hs2).symm.trans hw
  cases e
  exact ⟨B2, .d _, Up.refl, g2, dp_up w2.s _ _ r, _, getLt h, rfl⟩
theorem ri_tup {xs : List PyData} {p : Addr} {vs : List V} (hs : SqT K B p vs) (d : DpAll K B vs xs) : RI K B ρ H (Itt K p) (itD xs) := by
  intro B2 ρ2 κ2 H2 w2 g2 i
  have hs2 : SqT K H2 p vs := sqt_up g2.ex (sqt_up w2.s hs)
  have hl := dpa_len d
  refine ⟨fun h => ⟨vs, hs2, by rw [hl]; exact h⟩, fun h => ?_⟩
  obtain ⟨w, hw, r⟩ := dpa_get d (getLt h)
  refine ⟨⟨vs, w, hs2, hw⟩, fun x H3 hy => ?_⟩
  obtain ⟨rfl, f⟩ := hy
  have e := (f vs hs2).symm.trans hw
  cases e
  exact ⟨B2, .d _, Up.refl, g2, dp_up w2.s _ _ r, _, getLt h, rfl⟩
theorem ri_str {s : Str} : RI K B ρ H (Its s) (itS s) := by
  intro B2 ρ2 κ2 H2 w2 g2 i
  refine ⟨fun h => h, fun h => ⟨h, fun x H3 hy => ?_⟩⟩
  obtain ⟨rfl, c, hc, rfl⟩ := hy
  exact ⟨B2, .d (.str ⟨#[c]⟩), Up.refl, g2, rp_str _, c, hc, rfl⟩
theorem ri_cell {p : Addr} (hp : ρ[k]? = some p) : RI K B ρ H (Itl K p) (itC k) := by
  intro B2 ρ2 κ2 H2 w2 g2 i
  have hp2 := w2.p _ _ hp
  refine ⟨fun h => ?_, fun h => ?_⟩
  · obtain ⟨xs, ek, hi⟩ := h
    obtain ⟨vs, r, eH, _⟩ := g2.ldAt hp2 ek
    exact ⟨vs, .inl (.inl eH), by rw [dpa_len r]; exact hi⟩
  · obtain ⟨xs, ek, hi⟩ := h
    obtain ⟨vs, r, eH, _⟩ := g2.ldAt hp2 ek
    obtain ⟨w, hw, rw'⟩ := dpa_get r (getLt hi)
    have hs2 : SqL K H2 p vs := .inl (.inl eH)
    refine ⟨⟨vs, w, hs2, hw⟩, fun x H3 hy => ?_⟩
    obtain ⟨rfl, f⟩ := hy
    have e := (f vs hs2).symm.trans hw
    cases e
    exact ⟨B2, .d _, Up.refl, g2, rw', xs, _, ek, getLt hi, rfl⟩
theorem ri_rng {lo : Int} {n : Nat} : RI K B ρ H (Itr lo n) (itR lo n) := by
  intro B2 ρ2 κ2 H2 w2 g2 i
  refine ⟨fun h => h, fun h => ⟨h, fun x H3 hy => ?_⟩⟩
  obtain ⟨rfl, rfl⟩ := hy
  exact ⟨B2, .d (.int (lo + i)), Up.refl, g2, rp_int _, rfl⟩
theorem ia_any {tge : Expr} (h : PEa K X e t f) (hK : X.K = K := by rfl) : PIa K X tge e (iAny K t) (aIter f) := by
  obtain ⟨K, Kn, KZ, Ku⟩ := K
  change X.K = K at hK
  subst hK
  exact ⟨pi_any h.pe, fun B ρ δ κ σ H R Q s g hh q => h.sd _ _ _ _ _ _ _ _ s g hh fun B1 ρ1 κ1 H1 a v w1 g1 r1 h1 => by
  split at h1
  · obtain ⟨p, vs, rfl, s1, d1⟩ := r1.list
    exact .inl ⟨p, rfl, ⟨vs, g1.ex.seq s1⟩, q _ _ _ _ _ _ w1 g1 (ri_list s1 d1) h1⟩
  · obtain ⟨p, vs, rfl, s1, d1⟩ := r1.tuple
    exact .inr (.inl ⟨p, rfl, ⟨vs, sqt_up g1.ex s1⟩, q _ _ _ _ _ _ w1 g1 (ri_tup s1 d1) h1⟩)
  · exact .inr (.inr ⟨_, r1.str, q _ _ _ _ _ _ w1 g1 ri_str h1⟩)
  · obtain ⟨p, hp, rfl⟩ := r1
    split at h1
    · rename_i xs ek
      obtain ⟨vs, r, eH, _⟩ := g1.ldAt hp ek
      exact .inl ⟨p, rfl, ⟨vs, .inl (.inl eH)⟩, q _ _ _ _ _ _ w1 g1 (ri_cell hp) h1⟩
    · exact h1.elim
  · exact h1.elim⟩
variable {ta : TA} {fa : AA}
def aRng1 (fa : AA) : AI := fun δ κ R => fa δ κ fun as κ1 => match as with
  | [.d (.int j)] => -(2 ^ 62) ≤ j ∧ j < 2 ^ 62 ∧ R (itR 0 j.toNat) κ1
  | _ => False
def aRng2 (fa : AA) : AI := fun δ κ R => fa δ κ fun as κ1 => match as with
  | [.d (.int i), .d (.int j)] => (-(2 ^ 62) ≤ i ∧ i < 2 ^ 62 ∧ -(2 ^ 62) ≤ j ∧ j < 2 ^ 62) ∧ R (itR i (j - i).toNat) κ1
  | _ => False
theorem ia_rng1 {tge a : Expr} {q pos : Pos} (hg : Gl X "range") (hm : X.mg "range" = none) (ha : PAa K X [a] ta fa) (hs : starEach [a] X.env = [(false, eval a X.env)] := by rfl) : PIa K X tge (.Call (.Name "range" q) [a] [] pos) (iRng1 ta) (aRng1 fa) :=
  ⟨pi_range1 hg hm ha.pa hs, fun B ρ δ κ σ H R Q s g hh q => ha.sd _ _ _ _ _ _ _ _ s g hh fun B1 ρ1 κ1 H1 as vs w1 g1 r1 h1 => by
    split at h1
    · obtain ⟨x, rfl, r⟩ := reps1 r1
      exact ⟨_, by rw [r.int], h1.1, h1.2.1, q _ _ _ _ _ _ w1 g1 ri_rng h1.2.2⟩
    · exact h1.elim⟩
theorem ia_rng2 {tge a b : Expr} {q pos : Pos} (hg : Gl X "range") (hm : X.mg "range" = none) (ha : PAa K X [a, b] ta fa) (hs : starEach [a, b] X.env = [(false, eval a X.env), (false, eval b X.env)] := by rfl) (hs2 : starEach [b] X.env = [(false, eval b X.env)] := by rfl) :
    PIa K X tge (.Call (.Name "range" q) [a, b] [] pos) (iRng2 ta) (aRng2 fa) :=
  ⟨pi_range2 hg hm ha.pa hs hs2, fun B ρ δ κ σ H R Q s g hh q => ha.sd _ _ _ _ _ _ _ _ s g hh fun B1 ρ1 κ1 H1 as vs w1 g1 r1 h1 => by
    split at h1
    · obtain ⟨x, y, rfl, rx, ry⟩ := reps2 r1
      exact ⟨_, _, by rw [rx.int, ry.int], h1.1, q _ _ _ _ _ _ w1 g1 ri_rng h1.2⟩
    · exact h1.elim⟩

/-! ### for -/
def aFor (ai : AI) (ag : AG) (f : AS) : AS := fun A δ κ => ai δ κ fun J κ1 => ∃ W : Nat → Nat → AD → AK → Prop, (∃ m, W 0 m δ κ1) ∧ ∀ i m δ' κ', W i m δ' κ' → κ1.length ≤ κ'.length →
  (J.stop i κ' ∧ A.nx δ' κ') ∨ (J.go i κ' ∧ ∃ N : AD → AK → Prop, (∀ δ3 κ3, N δ3 κ3 → ∃ m', m' < m ∧ W (i + 1) m' δ3 κ3) ∧ ∀ a, J.yld i κ' a → ag a δ' κ' fun δ2 κ2 => f { n := κ1.length, nx := N, ct := N, bk := A.nx, rt := A.rt } δ2 κ2)
theorem sa_for {iter tge : Expr} {body : List Stmt} {wi : TI} {ai : AI} (hp : PassesOwn (model X.prog X.w) X.A X.env X.xe) (hc : X.calm = true) (hi : PIa K X tge iter wi ai) (hg : PGa K X tge tg ag) (hb : PSsa K X body t1 f1)
    (hs : ∀ x, foldedSetIterable iter X.env x = pure x := by intro _; rfl) : PSa K X (.For tge iter body [] pos) (tFor wi tg t1) (aFor ai ag f1) :=
  ⟨ps_for hp hc hi.pi hg.pg hb.ps hs, fun B ρ δ κ σ H A D s g l hh im => hi.sd B ρ δ κ σ H _ _ s g hh fun B1 ρ1 κ1 H1 J Ja w1 g1 ri ⟨W, ⟨m0, w0⟩, turn⟩ => by
    have l1 : A.n ≤ κ1.length := Nat.le_trans l (w1.len g g1)
    have im1 := im.later w1.n
    refine ⟨fun i m σ' H' => Later K B1 ρ1 H1 κ1.length (W i m) σ' H', ⟨m0, B1, ρ1, δ, κ1, UpN.refl, s.up w1.g, g1, Nat.le_refl _, w0⟩, fun i m σ' H' hW => ?_⟩
    obtain ⟨B2, ρ2, δ2, κ2, w2, s2, g2, l2, hw⟩ := hW
    have full : Up B1 ρ1 H1 B2 ρ2 H' := w2.full (by rw [g1.len]; exact Nat.le_refl _)
    have r := ri B2 ρ2 κ2 H' full g2 i
    rcases turn i m δ2 κ2 hw l2 with ⟨h1, h2⟩ | ⟨h1, N, hN, h2⟩
    · exact .inl ⟨r.1 h1, im1.nx _ _ _ _ _ _ (w2.mono l1) g2 s2 (Nat.le_trans l1 l2) h2⟩
    · obtain ⟨hgo, hy⟩ := r.2 h1
      refine .inr ⟨hgo, fun σ3 H3 => Later K B1 ρ1 H1 κ1.length N σ3 H3, ?_, fun x H3 hx => ?_⟩
      · rintro σ3 H3 ⟨B3, ρ3, δ3, κ3, w3, s3, g3, l3, hn⟩
        obtain ⟨m', hm, hw'⟩ := hN _ _ hn
        exact ⟨m', hm, B3, ρ3, δ3, κ3, w3, s3, g3, l3, hw'⟩
      · obtain ⟨B3, a, w3, g3, ra, ya⟩ := hy x H3 hx
        refine hg.sd _ _ _ _ _ _ _ _ _ _ (s2.up w3.g) g3 ra (h2 a ya) fun B4 ρ4 δ4 κ4 σ4 H4 w4 s4 g4 h4 => ?_
        have wa : UpN κ1.length B1 ρ1 H1 B4 ρ4 H4 := w2.trans (w3.trans w4).n
        refine hb.sd _ _ _ _ _ _ _ _ s4 g4 (Nat.le_trans l2 (w4.len g3 g4)) h4 ⟨?_, ?_, ?_, ?_, Nat.le_trans im.kn l1⟩
        · exact fun B5 ρ5 κ5 H5 δ5 σ5 w5 g5 s5 l5 h5 => ⟨B5, ρ5, δ5, κ5, wa.trans w5, s5, g5, l5, h5⟩
        · exact fun B5 ρ5 κ5 H5 a v w5 g5 r5 l5 h5 => im1.rt _ _ _ _ _ _ ((wa.trans w5).mono l1) g5 r5 (Nat.le_trans l1 l5) h5
        · exact fun B5 ρ5 κ5 H5 δ5 σ5 w5 g5 s5 l5 h5 => im1.nx _ _ _ _ _ _ ((wa.trans w5).mono l1) g5 s5 (Nat.le_trans l1 l5) h5
        · exact fun B5 ρ5 κ5 H5 δ5 σ5 w5 g5 s5 l5 h5 => ⟨B5, ρ5, δ5, κ5, wa.trans w5, s5, g5, l5, h5⟩⟩
/-! helpers for loops: over known items, over a range, over a text, over the cell at k -/
abbrev ForW (J : AIt) (ag : AG) (f : AS) (A : AEnds) (n : Nat) (δ : AD) (κ1 : AK) : Prop := ∃ W : Nat → Nat → AD → AK → Prop, (∃ m, W 0 m δ κ1) ∧ ∀ i m δ' κ', W i m δ' κ' → n ≤ κ'.length →
  (J.stop i κ' ∧ A.nx δ' κ') ∨ (J.go i κ' ∧ ∃ N : AD → AK → Prop, (∀ δ3 κ3, N δ3 κ3 → ∃ m', m' < m ∧ W (i + 1) m' δ3 κ3) ∧ ∀ a, J.yld i κ' a → ag a δ' κ' fun δ2 κ2 => f { n := n, nx := N, ct := N, bk := A.nx, rt := A.rt } δ2 κ2)
variable {ag : AG} {f : AS} {A : AEnds} {n : Nat} {κ1 : AK}
theorem for_d {xs : List PyData} (Pv : Nat → AD → AK → Prop) (h0 : Pv 0 δ κ1) (hd : ∀ δ' κ', Pv xs.length δ' κ' → n ≤ κ'.length → A.nx δ' κ')
    (hs : ∀ i x δ' κ', xs[i]? = some x → Pv i δ' κ' → n ≤ κ'.length → ag (.d x) δ' κ' fun δ2 κ2 => f { n := n, nx := Pv (i + 1), ct := Pv (i + 1), bk := A.nx, rt := A.rt } δ2 κ2) : ForW (itD xs) ag f A n δ κ1 := by
  refine ⟨fun i m δ' κ' => m = xs.length - i ∧ i ≤ xs.length ∧ Pv i δ' κ', ⟨_, rfl, Nat.zero_le _, h0⟩, ?_⟩
  rintro i m δ' κ' ⟨rfl, hi, p⟩ ln
  by_cases hlt : i < xs.length
  · refine .inr ⟨hlt, Pv (i + 1), fun _ _ q => ⟨xs.length - (i + 1), by omega, rfl, hlt, q⟩, ?_⟩
    rintro a ⟨x, hx, rfl⟩
    exact hs i x δ' κ' hx p ln
  · have e : i = xs.length := by omega
    subst e
    exact .inl ⟨Nat.le_refl _, hd _ _ p ln⟩
theorem for_r {lo : Int} {N : Nat} (Pv : Nat → AD → AK → Prop) (h0 : Pv 0 δ κ1) (hd : ∀ δ' κ', Pv N δ' κ' → n ≤ κ'.length → A.nx δ' κ')
    (hs : ∀ i δ' κ', i < N → Pv i δ' κ' → n ≤ κ'.length → ag (.d (.int (lo + i))) δ' κ' fun δ2 κ2 => f { n := n, nx := Pv (i + 1), ct := Pv (i + 1), bk := A.nx, rt := A.rt } δ2 κ2) : ForW (itR lo N) ag f A n δ κ1 := by
  refine ⟨fun i m δ' κ' => m = N - i ∧ i ≤ N ∧ Pv i δ' κ', ⟨_, rfl, Nat.zero_le _, h0⟩, ?_⟩
  rintro i m δ' κ' ⟨rfl, hi, p⟩ ln
  by_cases hlt : i < N
  · refine .inr ⟨hlt, Pv (i + 1), fun _ _ q => ⟨N - (i + 1), by omega, rfl, hlt, q⟩, ?_⟩
    rintro a rfl
    exact hs i δ' κ' hlt p ln
  · have e : i = N := by omega
    subst e
    exact .inl ⟨Nat.le_refl _, hd _ _ p ln⟩
theorem for_s {s : Str} (Pv : Nat → AD → AK → Prop) (h0 : Pv 0 δ κ1) (hd : ∀ δ' κ', Pv s.cps.size δ' κ' → n ≤ κ'.length → A.nx δ' κ')
    (hs : ∀ (i : Nat) (c : Nat) δ' κ', s.cps[i]? = some c → Pv i δ' κ' → n ≤ κ'.length → ag (.d (.str ⟨#[c]⟩)) δ' κ' fun δ2 κ2 => f { n := n, nx := Pv (i + 1), ct := Pv (i + 1), bk := A.nx, rt := A.rt } δ2 κ2) : ForW (itS s) ag f A n δ κ1 := by
  refine ⟨fun i m δ' κ' => m = s.cps.size - i ∧ i ≤ s.cps.size ∧ Pv i δ' κ', ⟨_, rfl, Nat.zero_le _, h0⟩, ?_⟩
  rintro i m δ' κ' ⟨rfl, hi, p⟩ ln
  by_cases hlt : i < s.cps.size
  · refine .inr ⟨hlt, Pv (i + 1), fun _ _ q => ⟨s.cps.size - (i + 1), by omega, rfl, hlt, q⟩, ?_⟩
    rintro a ⟨c, hc, rfl⟩
    exact hs i c δ' κ' hc p ln
  · have e : i = s.cps.size := by omega
    subst e
    exact .inl ⟨Nat.le_refl _, hd _ _ p ln⟩
/-- the list at k stays as it is while it is walked -/
theorem for_c {k : Nat} {xs : List PyData} (Pv : Nat → AD → AK → Prop) (h0 : Pv 0 δ κ1) (hk : ∀ i δ' κ', Pv i δ' κ' → κ'[k]? = some (.ld xs)) (hd : ∀ δ' κ', Pv xs.length δ' κ' → n ≤ κ'.length → A.nx δ' κ')
    (hs : ∀ i x δ' κ', xs[i]? = some x → Pv i δ' κ' → n ≤ κ'.length → ag (.d x) δ' κ' fun δ2 κ2 => f { n := n, nx := Pv (i + 1), ct := Pv (i + 1), bk := A.nx, rt := A.rt } δ2 κ2) : ForW (itC k) ag f A n δ κ1 := by
  refine ⟨fun i m δ' κ' => m = xs.length - i ∧ i ≤ xs.length ∧ Pv i δ' κ', ⟨_, rfl, Nat.zero_le _, h0⟩, ?_⟩
  rintro i m δ' κ' ⟨rfl, hi, p⟩ ln
  by_cases hlt : i < xs.length
  · refine .inr ⟨⟨xs, hk _ _ _ p, hlt⟩, Pv (i + 1), fun _ _ q => ⟨xs.length - (i + 1), by omega, rfl, hlt, q⟩, ?_⟩
    rintro a ⟨ys, x, hy, hx, rfl⟩
    rw [hk _ _ _ p] at hy; cases hy
    exact hs i x δ' κ' hx p ln
  · have e : i = xs.length := by omega
    subst e
    exact .inl ⟨⟨xs, hk _ _ _ p, Nat.le_refl _⟩, hd _ _ p ln⟩
/-- while by a measure -/
theorem while_m {p : AT} {f : AS} {A : AEnds} (Pv : AD → AK → Prop) (μ : AD → AK → Nat) (h0 : Pv δ κ)
    (hs : ∀ δ' κ', Pv δ' κ' → κ.length ≤ κ'.length → p δ' κ' fun b κ1 => bsel b (f { n := κ.length, nx := fun δ2 κ2 => Pv δ2 κ2 ∧ μ δ2 κ2 < μ δ' κ', ct := fun δ2 κ2 => Pv δ2 κ2 ∧ μ δ2 κ2 < μ δ' κ', bk := A.nx, rt := A.rt } δ' κ1) (A.nx δ' κ1))
    (mono : ∀ δ' κ' (Q Q' : Bool → AK → Prop), (∀ b κ1, Q b κ1 → Q' b κ1) → p δ' κ' Q → p δ' κ' Q') : aWhile p f A δ κ := by
  refine ⟨fun m δ' κ' => m = μ δ' κ' ∧ Pv δ' κ', ⟨_, rfl, h0⟩, ?_⟩
  rintro m δ' κ' ⟨rfl, hp⟩ l
  refine mono δ' κ' _ _ (fun b κ1 q => ?_) (hs δ' κ' hp l)
  cases b with
  | true => exact ⟨_, fun δ2 κ2 h => ⟨_, h.2, rfl, h.1⟩, q⟩
  | false => exact q
end Ab
set_option Elab.async false
set_option linter.all false
set_option maxRecDepth 100000
set_option maxHeartbeats 4000000
/-! Ab6: list comprehensions; defs, their promises, their calls -/
namespace Ab
open PySem L2
open PyProof.Rows (envOfC)
variable {K : Frg} {B B' B2 H H' H2 : Hp} {ρ ρ' ρ2 : List Addr} {κ κ' : AK} {δ : AD} {σ : L2.St} {p : Addr} {k : Nat} {v x y z : V} {a b c : AV}
variable {X : Cx} {e e2 : Expr} {t u : TE} {f f2 : AE} {pos : Pos}

def wipeA (δ : AD) : List Nat → AD
  | [] => δ
  | v :: vs => (wipeA δ vs).set v none
theorem S.wipe (s : S K B ρ δ σ) : ∀ vs : List Nat, S K B ρ (wipeA δ vs) (L2.wipe σ vs)
  | [] => s
  | v :: vs => (S.wipe s vs).clr
theorem wipe_get (σ : L2.St) (i : Nat) : ∀ vs : List Nat, (L2.wipe σ vs)[i]? = if i ∈ vs then σ[i]?.map fun _ => none else σ[i]?
  | [] => by simp [L2.wipe]
  | v :: vs => by
    show ((L2.wipe σ vs).set v none)[i]? = _
    rw [List.getElem?_set, wipe_get σ i vs, wipe_length]
    by_cases h : v = i
    · subst h
      rw [if_pos rfl]
      by_cases hv : v < σ.length
      · rw [if_pos hv, if_pos (List.mem_cons_self ..), List.getElem?_eq_getElem hv]; rfl
      · rw [if_neg hv, if_pos (List.mem_cons_self ..), List.getElem?_eq_none (by omega)]; rfl
    · rw [if_neg h]
      have : (i ∈ v :: vs) = (i ∈ vs) := by
        apply propext
        rw [List.mem_cons]
        exact ⟨fun z => z.elim (fun w => absurd w.symm h) id, Or.inr⟩
      simp only [this]
theorem wipe_set {σ : L2.St} {vs : List Nat} {j : Nat} {w : Option V} (h : j ∈ vs) : L2.wipe (σ.set j w) vs = L2.wipe σ vs := by
  apply List.ext_getElem?
  intro i
  rw [wipe_get, wipe_get]
  by_cases hi : i ∈ vs
  · rw [if_pos hi, if_pos hi, List.getElem?_set]
    by_cases e : j = i
    · subst e
      rw [if_pos rfl]
      by_cases hl : j < σ.length
      · rw [if_pos hl, List.getElem?_eq_getElem hl]; rfl
      · rw [if_neg hl, List.getElem?_eq_none (by omega)]
    · rw [if_neg e]
  · rw [if_neg hi, if_neg hi, List.getElem?_set_ne (fun (e : j = i) => hi (e ▸ h))]
theorem wipe_wipe (σ : L2.St) (vs : List Nat) : L2.wipe (L2.wipe σ vs) vs = L2.wipe σ vs := by
  apply List.ext_getElem?
  intro i
  rw [wipe_get, wipe_get]
  by_cases hi : i ∈ vs
  · rw [if_pos hi, if_pos hi]
    cases σ[i]? <;> rfl
  · rw [if_neg hi, if_neg hi]
/-! targets within a comprehension: the own names alone -/
def SGw (K : Frg) (t : TG) (g : AG) (vs : List Nat) : Prop := ∀ B ρ δ κ σ H a v (R : AD → AK → Prop) (Q : L2.St → Hp → Prop), S K B ρ δ σ → G K B ρ κ H → Rep K B ρ a v → g a δ κ R →
  (∀ B' ρ' δ' κ' σ' H', Up B ρ H B' ρ' H' → S K B' ρ' δ' σ' → G K B' ρ' κ' H' → R δ' κ' → L2.wipe σ' vs = L2.wipe σ vs → Q σ' H') → t v σ H Q
def SGsw (K : Frg) (t : TGs) (g : AGs) (vs : List Nat) : Prop := ∀ B ρ δ κ σ H as ws (R : AD → AK → Prop) (Q : L2.St → Hp → Prop), S K B ρ δ σ → G K B ρ κ H → Reps K B ρ as ws → g as δ κ R →
  (∀ B' ρ' δ' κ' σ' H', Up B ρ H B' ρ' H' → S K B' ρ' δ' σ' → G K B' ρ' κ' H' → R δ' κ' → L2.wipe σ' vs = L2.wipe σ vs → Q σ' H') → t ws σ H Q
theorem sgw_name {i : Nat} {vs : List Nat} (h : i ∈ vs) : SGw K (gName i) (aName i) vs := fun B ρ δ κ σ H a v R Q s g r hh q => q _ _ _ _ _ _ Up.refl (s.set r) g hh (wipe_set h)
theorem sgsw_nil {vs : List Nat} : SGsw K gNil aGNil vs := fun B ρ δ κ σ H as ws R Q s g r h q => by
  unfold aGNil at h
  split at h
  · cases r; exact ⟨rfl, q _ _ _ _ _ _ Up.refl s g h rfl⟩
  · exact h.elim
theorem sgsw_cons {tg : TG} {tgs : TGs} {ag : AG} {ags : AGs} {vs : List Nat} (h1 : SGw K tg ag vs) (h2 : SGsw K tgs ags vs) : SGsw K (gCons tg tgs) (aGCons ag ags) vs := fun B ρ δ κ σ H as ws R Q s g r h q => by
  unfold aGCons at h
  split at h
  · cases r with
    | cons r1 r2 =>
      exact ⟨_, _, rfl, h1 _ _ _ _ _ _ _ _ _ _ s g r1 h fun B' ρ' δ' κ' σ' H' w s' g' h' e1 => h2 _ _ _ _ _ _ _ _ _ _ s' g' (Reps.up w.g r2) h' fun _ _ _ _ _ _ w2 s2 g2 k2 e2 => q _ _ _ _ _ _ (w.trans w2) s2 g2 k2 (e2.trans e1)⟩
  · exact h.elim
theorem sgw_tup {tgs : TGs} {ags : AGs} {vs : List Nat} {n : Nat} (h : SGsw K tgs ags vs) : SGw K (gTup K n tgs) (aGTup n ags) vs := fun B ρ δ κ σ H a v R Q s g r hh q => by
  unfold aGTup at hh
  split at hh
  · obtain ⟨p, vs, rfl, s1, d1⟩ := of_tupG g r
    exact ⟨p, vs, rfl, s1, by rw [dpa_len d1]; exact hh.1, h _ _ _ _ _ _ _ _ _ _ s g (Reps.all d1) hh.2 q⟩
  · obtain ⟨p, hp, rfl⟩ := r
    split at hh
    · rename_i xs ek
      obtain ⟨p', hp', vs, r, eH⟩ := g.cell ek
      rw [hp] at hp'; cases hp'
      exact ⟨p, vs, rfl, .inl (.inl eH), by rw [← r.len]; exact hh.1, h _ _ _ _ _ _ _ _ _ _ s g r hh.2 q⟩
    · exact hh.elim
  · exact hh.elim
structure PTsa (K : Frg) (X : Cx) (ifs : List Expr) (t : TT) (f : AT) : Prop where
  pt : PTs X ifs t
  sd : ST K t f
def aYes : AT := fun _ κ R => R true κ
theorem tsa_nil : PTsa K X [] tYes aYes := ⟨pts_nil, fun B ρ δ κ σ H R Q s g h q => q _ _ _ _ _ Up.refl g h⟩
theorem tsa_one {tc : TT} {pc : AT} (h : PTa K X e tc pc) : PTsa K X [e] tc pc := ⟨pts_one h.pt, h.sd⟩
/-- [elt for target in iter if ..], its items data: a list that never changes -/
def LcWd (J : AIt) (ag : AG) (p : AT) (f : AE) (vs : List Nat) (δ : AD) (κ1 : AK) (R : AR) : Prop := ∃ W : Nat → Nat → List PyData → AK → Prop, (∃ m, W 0 m [] κ1) ∧ ∀ i m acc κ', W i m acc κ' →
  (J.stop i κ' ∧ R (.d (.list acc)) κ') ∨ (J.go i κ' ∧ ∃ N : List PyData → AK → Prop, (∀ acc2 κ2, N acc2 κ2 → ∃ m', m' < m ∧ W (i + 1) m' acc2 κ2) ∧ ∀ a, J.yld i κ' a → ag a (wipeA δ vs) κ' fun δ2 κ2 => p δ2 κ2 fun b κ3 =>
    bsel b (f δ2 κ3 fun y κ4 => ∃ d, y = .d d ∧ acc.length < sizeLine ∧ N (acc ++ [d]) κ4) (N acc κ3))
@[irreducible] def LcW (J : AIt) (ag : AG) (p : AT) (f : AE) (vs : List Nat) (δ : AD) (κ1 : AK) (R : AR) : Prop := LcWd J ag p f vs δ κ1 R
theorem lcw {J : AIt} {ag : AG} {p : AT} {f : AE} {vs : List Nat} {δ : AD} {κ1 : AK} {R : AR} : LcW J ag p f vs δ κ1 R ↔ LcWd J ag p f vs δ κ1 R := by
  unfold LcW; exact Iff.rfl
def aLc (ai : AI) (ag : AG) (p : AT) (f : AE) (vs : List Nat) : AE := fun δ κ R => ai δ κ fun J κ1 => LcW J ag p f vs δ κ1 R
theorem Up.off {D : Addr} {o : HO} (w : Up B ρ H B' ρ' H') (hD : H D = none) : Up B ρ H B' ρ' (upd H' D o) := ⟨w.s, w.p, fun p x h1 h2 h3 => by
  have hp := ne_of_none h1 hD
  rw [upd_ne hp]; exact w.f p x h1 h2 h3⟩
theorem Up.newR {D : Addr} (w : Up B ρ H B' ρ' H') (hD : H D = none) : Up B ρ H B' (ρ' ++ [D]) H' := ⟨w.s, fun i a h => get_app (w.p i a h), fun p o z1 z2 z3 => by
  obtain ⟨y1, y2, y3⟩ := w.f p o z1 z2 z3
  refine ⟨y1, y2, fun z => ?_⟩
  rcases List.mem_append.mp z with z | z
  · exact y3 z
  · exact ne_of_none z1 hD (by simpa using z)⟩
theorem G.off (g : G K B ρ κ H) {D : Addr} {o : HO} (hb : B D = none) (hr : D ∉ ρ) (hz : K.Z B ρ (upd H D o)) : G K B ρ κ (upd H D o) := by
  refine ⟨fun b x e => ?_, g.len, g.inj, fun i q c h1 h2 => ?_, hz⟩
  · rw [upd_ne (ne_of_none e hb)]; exact g.ex b x e
  · have hq : q ≠ D := fun z => hr (z ▸ mem_of_get h1)
    exact (g.at' i q c h1 h2).up Ug.refl Or.inl fun o' e => by rw [upd_ne hq]; exact e
theorem se_lc {wi : TI} {ai : AI} {tg : TG} {ag : AG} {tt : TT} {pt : AT} {vs : List Nat} (hi : SI K wi ai) (hg : SGw K tg ag vs) (ht : ST K tt pt) (he : SE K t f) : SE K (tLc wi tg tt t vs) (aLc ai ag pt f vs) := fun B ρ δ κ σ H R Q s g hh q =>
  hi B ρ δ κ σ H _ _ s g hh fun B1 ρ1 κ1 H1 J Ja w1 g1 ri hlc => by
    obtain ⟨W, ⟨m0, w0⟩, turn⟩ := lcw.mp hlc
    intro D hD
    have q1 := q.later w1
    refine ⟨fun i m H' => ∃ B' ρ' κ' accV acc, Up B1 ρ1 H1 B' ρ' H' ∧ G K B' ρ' κ' H' ∧ H' D = some (.lst accV) ∧ B' D = none ∧ D ∉ ρ' ∧ DpAll K B' accV acc ∧ W i m acc κ', ⟨m0, B1, ρ1, κ1, [], [], Up.refl.off hD, g1.off (g1.fresh hD) (fun z => ?_) (K.up _ _ _ _ _ _ (Up.refl.off hD).n g1.z), upd_same, g1.fresh hD, fun z => ?_, .nil, w0⟩, ?_⟩
    · obtain ⟨i, hi⟩ := List.mem_iff_getElem?.mp z
      exact g1.nin hD hi rfl
    · obtain ⟨i, hi⟩ := List.mem_iff_getElem?.mp z
      exact g1.nin hD hi rfl
    rintro i m H2 ⟨B2, ρ2, κ2, accV, acc, w2, g2, eD, bD, rD, da, hw⟩
    have r := ri B2 ρ2 κ2 H2 w2 g2 i
    rcases turn i m acc κ2 hw with ⟨h1, h2⟩ | ⟨h1, N, hN, h2⟩
    · refine .inl ⟨r.1 h1, ?_⟩
      have hs : Same B2 (upd B2 D (.lst accV)) := same_upd bD
      have hBD : (upd B2 D (.lst accV)) D = some (.lst accV) := upd_same
      have wz : Up B1 ρ1 H1 (upd B2 D (.lst accV)) ρ2 H2 := ⟨w2.s.trans hs, w2.p, fun p o z1 z2 z3 => by
        obtain ⟨y1, y2, y3⟩ := w2.f p o z1 z2 z3
        exact ⟨y1, (by rw [upd_ne (ne_of_none z1 hD)]; exact y2), y3⟩⟩
      refine q1 (upd B2 D (.lst accV)) ρ2 κ2 H2 (.d (.list acc)) (.ref D) wz ⟨fun b x e => ?_, g2.len, g2.inj, fun j p cl z1 z2 => ?_, K.up _ _ _ _ _ _ wz.n g1.z⟩ (.lst (.inl (.inl hBD)) (dpa_up hs _ _ da)) h2
      · by_cases hb : b = D
        · subst hb; rw [hBD] at e; rw [eD]; exact e
        · rw [upd_ne hb] at e; exact g2.ex b x e
      · have hq : p ≠ D := fun z => rD (z ▸ mem_of_get z1)
        exact (g2.at' j p cl z1 z2).up ⟨hs, fun _ _ h => h⟩ (fun z => .inl (by rw [upd_ne hq]; exact z)) fun _ e => e
    · obtain ⟨hgo, hy⟩ := r.2 h1
      -- a turn's end
      refine .inr ⟨hgo, fun H' => ∃ B' ρ' κ' accV acc, Up B1 ρ1 H1 B' ρ' H' ∧ G K B' ρ' κ' H' ∧ H' D = some (.lst accV) ∧ B' D = none ∧ D ∉ ρ' ∧ DpAll K B' accV acc ∧ N acc κ', ?_, fun x H3 hx => ?_⟩
      · rintro H' ⟨B', ρ', κ', accV', acc', z1, z2, z3, z4, z5, z6, hn⟩
        obtain ⟨m', hm, hw'⟩ := hN _ _ hn
        exact ⟨m', hm, B', ρ', κ', accV', acc', z1, z2, z3, z4, z5, z6, hw'⟩
      · obtain ⟨B3, a, w3, g3, ra, ya⟩ := hy x H3 hx
        have sw : S K B3 ρ2 (wipeA δ vs) (L2.wipe σ vs) := (s.up ((w1.trans w2).trans w3).g).wipe vs
        refine hg _ _ _ _ _ _ _ _ _ _ sw g3 ra (h2 a ya) fun B4 ρ4 δ4 κ4 σ4 H4 w4 s4 g4 h4 e4 => ⟨by rw [e4, wipe_wipe], ?_⟩
        refine ht _ _ _ _ _ _ _ _ s4 g4 h4 fun B5 ρ5 κ5 H5 b w5 g5 h5 => ?_
        have w25 := (w3.trans w4).trans w5
        obtain ⟨e5, b5, r5⟩ := w25.f D _ eD (.inl bD) rD
        have b5 : B5 D = none := b5.elim id fun ⟨ws, z⟩ => by cases z
        cases b with
        | false =>
          refine iteF ⟨B5, ρ5, κ5, accV, acc, w2.trans w25, g5, e5, b5, r5, dpa_up w25.s _ _ da, h5⟩
        | true =>
          refine iteT (he _ _ _ _ _ _ _ _ (s4.up w5.g) g5 h5 fun B6 ρ6 κ6 H6 a6 v6 w6 g6 r6 h6 => ?_)
          obtain ⟨d, rfl, hl, hn⟩ := h6
          obtain ⟨e6, b6, r6'⟩ := w6.f D _ e5 (.inl b5) r5
          have b6 : B6 D = none := b6.elim id fun ⟨ws, z⟩ => by cases z
          have w26 := w25.trans w6
          have da6 := dpa_up w26.s _ _ da
          refine ⟨accV, e6, by rw [dpa_len da6]; exact hl, B6, ρ6, κ6, accV ++ [v6], acc ++ [d], (w2.trans w26).off hD, g6.off b6 r6' (K.up _ _ _ _ _ _ ((w2.trans w26).off hD).n g1.z), upd_same, b6, r6', dpa_app da6 (.cons r6 .nil), hn⟩
section
variable {elt tge iter : Expr} {ifs : List Expr} {scope : Scope} {own : List (Str × Nat)} {wi : TI} {ai : AI} {tg : TG} {ag : AG} {tt : TT} {pt : AT} {te : TE} {fe : AE}
theorem ea_lc (hc : X.calm = true) (hN : X.N.Nodup) (hi : PIa K X tge iter wi ai) (ok : BlkOk X.N X.env.scope scope own)
    (hg : ∀ (s : Shared) (H : Hp) (C : Addr) (cl : List (Str × Addr)) (fp : List Addr), PG (X.blk s H scope (compEnvC scope cl C X.env) fp) tge tg) (hgw : SGw K tg ag (own.map (·.2)))
    (ht : ∀ (s : Shared) (H : Hp) (C : Addr) (cl : List (Str × Addr)) (fp : List Addr), PTsa K (X.blk s H scope (compEnvC scope cl C X.env) fp) ifs tt pt)
    (he : ∀ (s : Shared) (H : Hp) (C : Addr) (cl : List (Str × Addr)) (fp : List Addr), PEa K (X.blk s H scope (compEnvC scope cl C X.env) fp) elt te fe) (hs : ∀ x, foldedSetIterable iter X.env x = pure x := by intro _; rfl) :
    PEa K X (.ListComp elt [⟨tge, iter, ifs, 0⟩] scope pos) (tLc wi tg tt te (own.map (·.2))) (aLc ai ag pt fe (own.map (·.2))) :=
  ⟨pe_lc hc hN hi.pi ok hg (fun s H C cl fp => (ht s H C cl fp).pt) (fun s H C cl fp => (he s H C cl fp).pe) hs, se_lc hi.sd hgw (ht ({} : Shared) (fun _ => none) 0 [] []).sd (he ({} : Shared) (fun _ => none) 0 [] []).sd⟩
theorem sa_setLc {i : Nat} {y : Str} {py spos : Pos} (hc : X.calm = true) (hN : X.N.Nodup) (hy : X.N[i]? = some y) (hyl : X.env.scope.names.lookup y = some .local)
    (hsw : swapsWith (.ListComp elt [⟨tge, iter, ifs, 0⟩] scope pos) (some (.Name y py)) spos.line X.env = pure true) (hi : PIa K X tge iter wi ai) (ok : BlkOk X.N X.env.scope scope own)
    (hg : ∀ (s : Shared) (H : Hp) (C : Addr) (cl : List (Str × Addr)) (fp : List Addr), PG (X.blk s H scope (compEnvC scope cl C X.env) fp) tge tg) (hgw : SGw K tg ag (own.map (·.2)))
    (ht : ∀ (s : Shared) (H : Hp) (C : Addr) (cl : List (Str × Addr)) (fp : List Addr), PTsa K (X.blk s H scope (compEnvC scope cl C X.env) fp) ifs tt pt)
    (he : ∀ (s : Shared) (H : Hp) (C : Addr) (cl : List (Str × Addr)) (fp : List Addr), PEa K (X.blk s H scope (compEnvC scope cl C X.env) fp) elt te fe) (hs : ∀ x, foldedSetIterable iter X.env x = pure x := by intro _; rfl) :
    PSa K X (.Assign [.Name y py] (.ListComp elt [⟨tge, iter, ifs, 0⟩] scope pos) spos) (tAsg (tLc wi tg tt te (own.map (·.2))) (gName i)) (aSet i (aLc ai ag pt fe (own.map (·.2)))) :=
  ⟨ps_setLc hc hN hy hyl hsw hi.pi ok hg (fun s H C cl fp => (ht s H C cl fp).pt) (fun s H C cl fp => (he s H C cl fp).pe) hs, ss_asg (se_lc hi.sd hgw (ht ({} : Shared) (fun _ => none) 0 [] []).sd (he ({} : Shared) (fun _ => none) 0 [] []).sd) sg_name⟩
end

/-! ### defs -/
/-- what leaves a def: the error's class, by its name in the module, and its fields -/
structure AX where
  cls : Str
  fs : List (Str × PyData)
/-- a promise: the arguments, the cells, what is wanted of the result, of an error -/
abbrev FSp := List AV → AK → AR → (AX → AK → Prop) → Prop
/-- an error as it stands: its class, its dict among the data -/
def RepX (K : PySem.W.Frag) (B : Hp) (x : AX) (cls : Value) (d : Option Addr) : Prop := PySem.W.nsIn K mainGlobals x.cls = some (some cls) ∧ ((d = none ∧ x.fs = []) ∨ ∃ dd ws, d = some dd ∧ B dd = some (.xd ws) ∧ DpKs K B x.fs ws)
theorem RepX.up {K : PySem.W.Frag} {x : AX} {cls : Value} {d : Option Addr} (s : Same B B') (h : RepX K B x cls d) : RepX K B' x cls d :=
  ⟨h.1, h.2.imp id fun ⟨dd, ws, e, eb, r⟩ => ⟨dd, ws, e, s _ _ eb, DpKs.up s r⟩⟩
def spA (K : PySem.W.Frag) (F : FSp) : Sp := fun vs H Q E => ∃ B ρ κ as R E', G (Frg.of K) B ρ κ H ∧ Reps K B ρ as vs ∧ F as κ R E' ∧
  (∀ B' ρ' κ' H' a v, Up B ρ H B' ρ' H' → G (Frg.of K) B' ρ' κ' H' → Rep K B' ρ' a v → R a κ' → Q v H') ∧
  (∀ B' ρ' κ' H' xa cls d, Up B ρ H B' ρ' H' → G (Frg.of K) B' ρ' κ' H' → RepX K B' xa cls d → E' xa κ' → E cls d H')
def startA (N : List Str) (as : List AV) : AD := as.map some ++ List.replicate (N.length - as.length) none
theorem s_start {N : List Str} {as : List AV} {vs : List V} (r : Reps K B ρ as vs) : S K B ρ (startA N as) (L2.start N vs) := by
  have hl := r.len
  refine ⟨by unfold startA L2.start; simp [hl], fun i a h => ?_⟩
  unfold startA at h
  by_cases hi : i < as.length
  · rw [List.getElem?_append_left (by simpa using hi), List.getElem?_map, List.getElem?_eq_getElem hi] at h
    simp at h
    obtain ⟨w, e, rw'⟩ := r.get (List.getElem?_eq_getElem hi)
    rw [h] at rw'
    refine ⟨w, ?_, rw'⟩
    unfold L2.start
    rw [List.getElem?_append_left (by simp; omega), List.getElem?_map, e]
    rfl
  · rw [List.getElem?_append_right (by simpa using hi)] at h
    have := mem_of_get h
    rw [List.mem_replicate] at this
    exact absurd this.2 (by simp)
/-- the end of a body: the result may be told anew -/
def endsA (K : PySem.W.Frag) (n : Nat) (R : AR) : AEnds := ⟨n, fun _ κ => ∃ a' κ', GhR K n (.d .none) κ a' κ' ∧ R a' κ', fun a κ => ∃ a' κ', GhR K n a κ a' κ' ∧ R a' κ', fun _ _ => False, fun _ _ => False⟩
theorem body_ok {K : PySem.W.Frag} {F : FSp} {N : List Str} {t : TS} {f : AS} {vs : List V} {H : Hp} {Q : VK} {E : XK} (hs : SS (Frg.of K) t f) (hF : ∀ as κ R E', F as κ R E' → f (endsA K κ.length R) (startA N as) κ) (h : spA K F vs H Q E) :
    t { nx := fun _ H' => Q .non H', rt := Q } (L2.start N vs) H := by
  obtain ⟨B, ρ, κ, as, R, E', g, r, hf, q, _⟩ := h
  have fin : ∀ B' ρ' κ' H' a v, UpN κ.length B ρ H B' ρ' H' → G (Frg.of K) B' ρ' κ' H' → Rep K B' ρ' a v → (∃ a' κ2, GhR K κ.length a κ' a' κ2 ∧ R a' κ2) → Q v H' := fun B' ρ' κ' H' a v w g' ra ⟨a', κ2, gh, hR⟩ => by
    obtain ⟨B2, ρ2, w2, r2, g2⟩ := gh.2 B' ρ' H' v g' ra
    exact q _ _ _ _ _ _ ((w.trans w2).full (by rw [g.len]; exact Nat.le_refl _)) g2 r2 hR
  refine hs B ρ (startA N as) κ (L2.start N vs) H (endsA K κ.length R) _ (s_start r) g (Nat.le_refl _) (hF as κ R E' hf) ⟨?_, ?_, ?_, ?_, Nat.zero_le _⟩
  · exact fun B' ρ' κ' H' δ' σ' w g' s' l h' => fin _ _ _ _ _ _ w g' rp_non h'
  · exact fun B' ρ' κ' H' a v w g' ra l h' => fin _ _ _ _ _ _ w g' ra h'
  · exact fun _ _ _ _ _ _ _ _ _ _ h' => h'.elim
  · exact fun _ _ _ _ _ _ _ _ _ _ h' => h'.elim
theorem spA_len {K : PySem.W.Frag} {F : FSp} {ps : List Str} (hl : ∀ as κ R E', F as κ R E' → as.length = ps.length) : ∀ vs H Q E, spA K F vs H Q E → vs.length = ps.length := by
  rintro vs H Q E ⟨B, ρ, κ, as, R, E', g, r, hf, _⟩
  rw [← r.len]; exact hl _ _ _ _ hf
section
variable {K : PySem.W.Frag} {P : Program} {w : World} {mg : Str → Option Value} {base : Heap}
/-- THE RULE for a def from which nothing is raised -/
theorem fn_ok {x qual : Str} {st : Stmt} {fa : Addr} {fd : FuncData} {N ps : List Str} {l : Nat} {F : FSp} (Fu : Fun K x qual st fa fd) (Sc : FnScope N ps (defScope st)) (hl : ∀ as κ R E', F as κ R E' → as.length = ps.length)
    (hb : ∀ (cdv : Value) (A : Around) (outer : List Env) (s : Shared) (H : Hp) (E : XK), Room l (A.deeper (envOfC qual (defScope st) s.heap.objs.size fa cdv)) →
      ∃ t f, PSsa (Frg.of K) (cxOf CX0 P w K mg base N qual (defScope st) fa cdv A outer s H E).nox (defBody st) t f ∧ ∀ as κ R E', F as κ R E' → f (endsA K κ.length R) (startA N as) κ) : FnOk P w K mg base CX0 (l + 1) fa fd ps (spA K F) :=
  Fu.ok Sc (spA_len hl) fun cdv A outer s H vs Q E hr h => by
    obtain ⟨t, f, hp, hF⟩ := hb cdv A outer s H E hr
    exact ⟨t, hp.ps, body_ok hp.sd hF h⟩
end
/-! ### calls: the callee sees the cells js alone -/
def posIn (k : Nat) : List Nat → Nat → Option Nat
  | [], _ => none
  | j :: js, i => if j = k then some i else posIn k js (i + 1)
def selA (js : List Nat) : AV → Option AV
  | .c k => (posIn k js 0).map .c
  | a => some a
def selAs (js : List Nat) : List AV → Option (List AV)
  | [] => some []
  | a :: r => match selA js a, selAs js r with
    | some x, some xs => some (x :: xs)
    | _, _ => none
/-- no reference within -/
def clC : Cell → Bool
  | .lst xs => xs.all (okA 0)
  | .tup xs => xs.all (okA 0)
  | .ins _ fs => fs.all fun p => okA 0 p.2
  | .dA fs => fs.all fun p => okA 0 p.2
  | _ => true
def selK (js : List Nat) (κ : AK) : Option AK := match js with
  | [] => some []
  | j :: r => match κ[j]?, selK r κ with
    | some c, some cs => if clC c = true then some (c :: cs) else none
    | _, _ => none
/-- back: the callee's cells at their places, its new ones behind -/
def putK : List Nat → AK → AK → AK
  | j :: js, c :: cs, κ => putK js cs (κ.set j c)
  | _, _, κ => κ
def liveC : Cell → Bool
  | .dead => false
  | _ => true
def backA (js : List Nat) (n : Nat) : AV → AV
  | .c j => match js[j]? with
    | some k => .c k
    | none => .c (n + (j - js.length))
  | a => a
def backK (js : List Nat) (κ κ' : AK) : AK := match κ'.drop js.length with
  | [] => putK js κ' κ
  | c :: l => putK js κ' κ ++ c :: l
theorem backK_eq (js : List Nat) (κ κ' : AK) : backK js κ κ' = putK js κ' κ ++ κ'.drop js.length := by
  unfold backK
  split
  · rename_i e; rw [e, List.append_nil]
  · rename_i e; rw [e]
@[irreducible] def callW (F : FSp) (E : AX → AK → Prop) (as : List AV) (κ1 : AK) (R : AR) : Prop := ∃ js asl κl, js.Nodup ∧ selAs js as = some asl ∧ selK js κ1 = some κl ∧
  F asl κl (fun a κ' => js.length ≤ κ'.length ∧ κ'.all clC = true ∧ (κ'.drop js.length).all liveC = true ∧ R (backA js κ1.length a) (backK js κ1 κ')) (fun x κ' => js.length ≤ κ'.length ∧ κ'.all clC = true ∧ (κ'.drop js.length).all liveC = true ∧ E x (backK js κ1 κ'))
theorem callW_i {F : FSp} {E : AX → AK → Prop} {as : List AV} {κ1 : AK} {R : AR} (h : ∃ js asl κl, js.Nodup ∧ selAs js as = some asl ∧ selK js κ1 = some κl ∧
  F asl κl (fun a κ' => js.length ≤ κ'.length ∧ κ'.all clC = true ∧ (κ'.drop js.length).all liveC = true ∧ R (backA js κ1.length a) (backK js κ1 κ')) (fun x κ' => js.length ≤ κ'.length ∧ κ'.all clC = true ∧ (κ'.drop js.length).all liveC = true ∧ E x (backK js κ1 κ'))) : callW F E as κ1 R := by
  unfold callW; exact h
theorem callW_e {F : FSp} {E : AX → AK → Prop} {as : List AV} {κ1 : AK} {R : AR} (h : callW F E as κ1 R) : ∃ js asl κl, js.Nodup ∧ selAs js as = some asl ∧ selK js κ1 = some κl ∧
  F asl κl (fun a κ' => js.length ≤ κ'.length ∧ κ'.all clC = true ∧ (κ'.drop js.length).all liveC = true ∧ R (backA js κ1.length a) (backK js κ1 κ')) (fun x κ' => js.length ≤ κ'.length ∧ κ'.all clC = true ∧ (κ'.drop js.length).all liveC = true ∧ E x (backK js κ1 κ')) := by
  unfold callW at h; exact h
def aCall (F : FSp) (E : AX → AK → Prop) (fa : AA) : AE := fun δ κ R => fa δ κ fun as κ1 => callW F E as κ1 R

theorem rep_cl (h : okA 0 a = true) (r : Rep K B ρ a v) : Rep K B ρ' a v := by
  cases a with
  | d x => exact r
  | r w => exact r
  | c j => exact absurd (of_decide_eq_true (p := j < 0) h) (Nat.not_lt_zero _)
theorem reps_cl : ∀ {as : List AV} {vs : List V}, as.all (okA 0) = true → Reps K B ρ as vs → Reps K B ρ' as vs
  | _, _, _, .nil => .nil
  | _, _, h, .cons h1 h2 => by
    rw [List.all_cons, Bool.and_eq_true] at h
    exact .cons (rep_cl h.1 h1) (reps_cl h.2 h2)
theorem repks_cl {ι : Type} : ∀ {as : List (ι × AV)} {vs : List (ι × V)}, (as.all fun p => okA 0 p.2) = true → RepKs K B ρ as vs → RepKs K B ρ' as vs
  | _, _, _, .nil => .nil
  | _, _, h, .cons h1 h2 => by
    rw [List.all_cons, Bool.and_eq_true] at h
    exact .cons ⟨h1.1, rep_cl h.1 h1.2⟩ (repks_cl h.2 h2)
theorem CellOk.cl {cl : Cell} (h : clC cl = true) (ok : CellOk K B ρ H p cl) : CellOk K B ρ' H p cl := by
  cases cl with
  | dead => exact ok
  | ld ys => exact ok
  | lst ys => obtain ⟨n, ws, r, e⟩ := ok; exact ⟨n, ws, reps_cl h r, e⟩
  | tup ys => obtain ⟨ws, r, e⟩ := ok; exact ⟨ws, reps_cl h r, e⟩
  | dK ys => exact ok
  | dT ys => exact ok
  | ins C ys => obtain ⟨n, dx, ws, r, e⟩ := ok; exact ⟨n, dx, ws, repks_cl h r, e⟩
  | dA ys => obtain ⟨n, ws, r, e⟩ := ok; exact ⟨n, ws, repks_cl h r, e⟩
  | ho o => exact ok
  | xo φ => exact ok
  | fk od ws kvs => exact ok
theorem posIn_get : ∀ {k : Nat} {js : List Nat} {i r : Nat}, posIn k js i = some r → ∃ m, r = i + m ∧ js[m]? = some k
  | _, [], _, _, h => by cases h
  | k, j :: js, i, r, h => by
    unfold posIn at h
    by_cases e : j = k
    · rw [if_pos e] at h
      cases h
      exact ⟨0, rfl, by rw [e]; rfl⟩
    · rw [if_neg e] at h
      obtain ⟨m, e1, e2⟩ := posIn_get h
      exact ⟨m + 1, by omega, by simpa using e2⟩
/-- the addresses of the cells js -/
def selR (js : List Nat) (ρ : List Addr) : List Addr := js.map fun j => ρ.getD j 0
theorem selR_get {js : List Nat} {i j : Nat} {p : Addr} (h : js[i]? = some j) (hp : ρ[j]? = some p) : (selR js ρ)[i]? = some p := by
  unfold selR
  rw [List.getElem?_map, h]
  show some (ρ.getD j 0) = some p
  rw [List.getD_eq_getElem?_getD, hp]; rfl
theorem selK_get : ∀ {js : List Nat} {κ κl : AK}, selK js κ = some κl → κl.length = js.length ∧ ∀ (i j : Nat), js[i]? = some j → ∃ c, κ[j]? = some c ∧ κl[i]? = some c ∧ clC c = true
  | [], κ, κl, h => by cases h; exact ⟨rfl, fun i j e => by simp at e⟩
  | j :: js, κ, κl, h => by
    unfold selK at h
    split at h
    · rename_i c cs e1 e2
      split at h
      · rename_i hc
        cases h
        obtain ⟨l, f⟩ := selK_get e2
        refine ⟨by simp [l], fun i j' e => ?_⟩
        cases i with
        | zero => simp at e; subst e; exact ⟨c, e1, rfl, hc⟩
        | succ i => obtain ⟨c', y1, y2, y3⟩ := f i j' (by simpa using e); exact ⟨c', y1, by simpa using y2, y3⟩
      · cases h
    · cases h
theorem selAs_ok {js : List Nat} (hr : ∀ (i j : Nat) (p : Addr), js[i]? = some j → ρ[j]? = some p → ρ'[i]? = some p) : ∀ {as asl : List AV} {vs : List V}, selAs js as = some asl → Reps K B ρ as vs → Reps K B ρ' asl vs
  | [], _, _, h, r => by cases h; cases r; exact .nil
  | a :: as, _, _, h, r => by
    unfold selAs at h
    split at h
    · rename_i x xs e1 e2
      cases h
      cases r with
      | cons r1 r2 =>
        refine .cons ?_ (selAs_ok hr e2 r2)
        cases a with
        | d y => cases e1; exact r1
        | r y => cases e1; exact r1
        | c k =>
          obtain ⟨i, hi, rfl⟩ := Option.map_eq_some_iff.mp e1
          obtain ⟨m, rfl, hm⟩ := posIn_get hi
          obtain ⟨p, hp, rfl⟩ := r1
          exact ⟨p, by simpa using hr m k p hm hp, rfl⟩
    · cases h
theorem putK_len : ∀ (js : List Nat) (κ' κ : AK), (putK js κ' κ).length = κ.length
  | [], _, _ => by cases ‹AK› <;> rfl
  | j :: js, [], κ => rfl
  | j :: js, c :: cs, κ => by
    show (putK js cs (κ.set j c)).length = _
    rw [putK_len, List.length_set]
theorem putK_ne : ∀ {js : List Nat} {κ' κ : AK} {i : Nat}, i ∉ js → (putK js κ' κ)[i]? = κ[i]?
  | [], _, _, _, _ => by cases ‹AK› <;> rfl
  | j :: js, [], κ, i, _ => rfl
  | j :: js, c :: cs, κ, i, h => by
    show (putK js cs (κ.set j c))[i]? = _
    rw [putK_ne (fun z => h (List.mem_cons_of_mem _ z)), List.getElem?_set_ne (fun (e : j = i) => h (e ▸ List.mem_cons_self ..))]
theorem putK_at : ∀ {js : List Nat} {κ' κ : AK} {i j : Nat} {c : Cell}, js.Nodup → js[i]? = some j → κ'[i]? = some c → j < κ.length → (putK js κ' κ)[j]? = some c
  | [], _, _, _, _, _, _, h, _, _ => by simp at h
  | j' :: js, [], κ, i, j, c, _, _, h, _ => by simp at h
  | j' :: js, c' :: cs, κ, i, j, c, nd, h, h2, hl => by
    rw [List.nodup_cons] at nd
    show (putK js cs (κ.set j' c'))[j]? = _
    cases i with
    | zero =>
      simp at h h2
      subst h; subst h2
      rw [putK_ne nd.1, List.getElem?_set_self hl]
    | succ i => exact putK_at nd.2 (by simpa using h) (by simpa using h2) (by rw [List.length_set]; exact hl)
/-- from the callee's end back to the caller -/
theorem back_ok (g : G K B ρ κ H) {js : List Nat} {κl : AK} (nd : js.Nodup) (hk : selK js κ = some κl) {ρl' : List Addr} (w : Up B (selR js ρ) H B' ρl' H') (g' : G (Frg.of K.K) B' ρl' κ' H') (l : js.length ≤ κ'.length) (cl : κ'.all clC = true) (lv : (κ'.drop js.length).all liveC = true) :
    Up B ρ H B' (ρ ++ ρl'.drop js.length) H' ∧ G K B' (ρ ++ ρl'.drop js.length) (backK js κ κ') H' ∧ ∀ {a : AV} {v : V}, Rep K B' ρl' a v → Rep K B' (ρ ++ ρl'.drop js.length) (backA js κ.length a) v := by
  obtain ⟨lk, sel⟩ := selK_get hk
  have jlt : ∀ {i j : Nat}, js[i]? = some j → j < κ.length := fun h => by
    obtain ⟨c, e, _⟩ := sel _ _ h
    exact (List.getElem?_eq_some_iff.mp e).1
  have rl : ∀ {i j : Nat} {p : Addr}, js[i]? = some j → ρ[j]? = some p → ρl'[i]? = some p := fun h hp => w.p _ _ (selR_get h hp)
  have memsel : ∀ {i : Nat} {p : Addr}, ρ[i]? = some p → p ∈ selR js ρ → i ∈ js := fun {i p} hp hm => by
    unfold selR at hm
    obtain ⟨j, hj, e⟩ := List.mem_map.mp hm
    obtain ⟨m, hm⟩ := List.mem_iff_getElem?.mp hj
    have lt := jlt hm
    rw [← g.len] at lt
    rw [List.getD_eq_getElem?_getD, List.getElem?_eq_getElem lt] at e
    have : ρ[j]? = some p := by rw [List.getElem?_eq_getElem lt]; exact congrArg some e
    rw [g.inj i j p hp this]; exact hj
  have newne : ∀ {i m : Nat} {p : Addr}, ρ[i]? = some p → (ρl'.drop js.length)[m]? = some p → False := fun {i m p} h1 h2 => by
    rw [List.getElem?_drop] at h2
    by_cases hj : i ∈ js
    · obtain ⟨q, hq⟩ := List.mem_iff_getElem?.mp hj
      have := g'.inj q _ p (rl hq h1) h2
      have := (List.getElem?_eq_some_iff.mp hq).1
      omega
    · have hm : js.length + m < κ'.length := by rw [← g'.len]; exact (List.getElem?_eq_some_iff.mp h2).1
      have ok := g'.at' _ p _ h2 (List.getElem?_eq_getElem hm)
      have live : liveC κ'[js.length + m] = true := List.all_eq_true.mp lv _ (mem_of_get (by rw [List.getElem?_drop]; exact List.getElem?_eq_getElem hm))
      have bn : B' p = none ∨ ∃ ws, H' p = some (.tup ws) := by
        cases hc : κ'[js.length + m] with
        | dead => rw [hc] at live; cases live
        | ld ys => rw [hc] at ok; exact .inl ok.1
        | lst ys => rw [hc] at ok; exact .inl ok.1
        | tup ys => rw [hc] at ok; obtain ⟨vs, _, e⟩ := ok; exact .inr ⟨vs, e⟩
        | dK ys => rw [hc] at ok; exact .inl ok.1
        | dT ys => rw [hc] at ok; exact .inl ok.1
        | ins C ys => rw [hc] at ok; exact .inl ok.1
        | dA ys => rw [hc] at ok; exact .inl ok.1
        | ho o => rw [hc] at ok; exact .inl ok.1
        | xo φ => rw [hc] at ok; exact .inl ok.1
        | fk od ws kvs => rw [hc] at ok; exact .inl ok.1
      have hi : i < κ.length := by rw [← g.len]; exact (List.getElem?_eq_some_iff.mp h1).1
      have hn := (g.at' i p _ h1 (List.getElem?_eq_getElem hi)).nn
      cases hH : H p with
      | none => exact hn hH
      | some o =>
        have fo : B p = none ∨ IsT o := by
          rcases bn with bn | ⟨ws, e⟩
          · exact .inl (w.s.free bn)
          · cases hB : B p with
            | none => exact .inl rfl
            | some u =>
              have z1 := g.ex p u hB
              rw [hH] at z1; cases z1
              have z2 := g'.ex p _ (w.s p _ hB)
              rw [e] at z2
              exact .inr ⟨ws, (Option.some.inj z2).symm⟩
        exact (w.f p o hH fo fun z => hj (memsel h1 z)).2.2 (mem_of_get h2)
  have w2 : Up B ρ H B' (ρ ++ ρl'.drop js.length) H' := ⟨w.s, fun _ _ h => get_app h, fun p o h1 h2 h3 => by
    have hp : p ∉ selR js ρ := fun z => by
      unfold selR at z
      obtain ⟨j, hj, e⟩ := List.mem_map.mp z
      obtain ⟨m, hm⟩ := List.mem_iff_getElem?.mp hj
      have lt := jlt hm
      rw [← g.len] at lt
      rw [List.getD_eq_getElem?_getD, List.getElem?_eq_getElem lt] at e
      exact h3 (by rw [← e]; exact List.getElem_mem lt)
    obtain ⟨y1, y2, y3⟩ := w.f p o h1 h2 hp
    refine ⟨y1, y2, fun z => ?_⟩
    rcases List.mem_append.mp z with z | z
    · exact h3 z
    · exact y3 (List.mem_of_mem_drop z)⟩
  have lb : (putK js κ' κ).length = ρ.length := by rw [putK_len, g.len]
  refine ⟨w2, ⟨g'.ex, ?_, fun i j p h1 h2 => ?_, fun i p c h1 h2 => ?_, K.up _ _ _ _ _ _ w2.n g.z⟩, fun {a v} r => ?_⟩
  · rw [backK_eq, List.length_append, List.length_append, lb, List.length_drop, List.length_drop, g'.len]
  · by_cases hi : i < ρ.length
    · rw [List.getElem?_append_left hi] at h1
      by_cases hj : j < ρ.length
      · rw [List.getElem?_append_left hj] at h2
        exact g.inj i j p h1 h2
      · rw [List.getElem?_append_right (by omega)] at h2
        exact (newne h1 h2).elim
    · rw [List.getElem?_append_right (by omega)] at h1
      by_cases hj : j < ρ.length
      · rw [List.getElem?_append_left hj] at h2
        exact (newne h2 h1).elim
      · rw [List.getElem?_append_right (by omega)] at h2
        rw [List.getElem?_drop] at h1 h2
        have := g'.inj _ _ p h1 h2
        omega
  · rw [backK_eq] at h2
    by_cases hi : i < ρ.length
    · rw [List.getElem?_append_left hi] at h1
      rw [List.getElem?_append_left (by omega)] at h2
      by_cases hj : i ∈ js
      · obtain ⟨q, hq⟩ := List.mem_iff_getElem?.mp hj
        have hq' : q < κ'.length := Nat.lt_of_lt_of_le (List.getElem?_eq_some_iff.mp hq).1 l
        rw [putK_at nd hq (List.getElem?_eq_getElem hq') (jlt hq)] at h2
        cases h2
        exact (g'.at' q p _ (rl hq h1) (List.getElem?_eq_getElem hq')).cl (List.all_eq_true.mp cl _ (List.getElem_mem hq'))
      · rw [putK_ne hj] at h2
        have ok := g.at' i p c h1 h2
        have hp : p ∉ selR js ρ := fun z => hj (memsel h1 z)
        refine ok.up w2.g (fun bn => ?_) fun o ho => ?_
        · obtain ⟨o, ho⟩ := Option.ne_none_iff_exists'.mp ok.nn
          exact (w.f p o ho (.inl bn) hp).2.1.imp id fun ⟨ws, z⟩ => ⟨ws, by rw [ho, z]⟩
        · cases bp : B p with
          | none => exact (w.f p o ho (.inl bp) hp).1
          | some u =>
            have e1 := g.ex p u bp
            rw [ho] at e1; cases e1
            exact g'.ex p o (w.s p o bp)
    · rw [List.getElem?_append_right (by omega), List.getElem?_drop] at h1
      rw [List.getElem?_append_right (by omega), lb, List.getElem?_drop] at h2
      exact (g'.at' _ p c h1 h2).cl (List.all_eq_true.mp cl _ (mem_of_get h2))
  · cases a with
    | d y => exact r
    | r y => exact r
    | c j =>
      obtain ⟨p, hp, rfl⟩ := r
      show Rep K B' _ (match js[j]? with | some k => .c k | none => .c (κ.length + (j - js.length))) _
      cases e : js[j]? with
      | some k =>
        have lt := jlt e
        rw [← g.len] at lt
        have e2 := rl e (List.getElem?_eq_getElem lt)
        rw [hp] at e2; cases e2
        exact ⟨_, get_app (List.getElem?_eq_getElem lt), rfl⟩
      | none =>
        have hj : js.length ≤ j := List.getElem?_eq_none_iff.mp e
        refine ⟨p, ?_, rfl⟩
        rw [← g.len, List.getElem?_append_right (by omega), List.getElem?_drop]
        have : js.length + (ρ.length + (j - js.length) - ρ.length) = j := by omega
        rw [this]; exact hp
theorem sel_ok (g : G K B ρ κ H) {js : List Nat} {κl : AK} (nd : js.Nodup) (hk : selK js κ = some κl) : G (Frg.of K.K) B (selR js ρ) κl H := by
  obtain ⟨lk, sel⟩ := selK_get hk
  have get : ∀ {i : Nat} {p : Addr}, (selR js ρ)[i]? = some p → ∃ j c, js[i]? = some j ∧ ρ[j]? = some p ∧ κ[j]? = some c ∧ κl[i]? = some c ∧ clC c = true := fun {i p} h => by
    unfold selR at h
    rw [List.getElem?_map] at h
    obtain ⟨j, hj, e⟩ := Option.map_eq_some_iff.mp h
    obtain ⟨c, e1, e2, e3⟩ := sel i j hj
    have lt : j < ρ.length := by rw [g.len]; exact (List.getElem?_eq_some_iff.mp e1).1
    rw [List.getD_eq_getElem?_getD, List.getElem?_eq_getElem lt] at e
    exact ⟨j, c, hj, by rw [List.getElem?_eq_getElem lt]; exact congrArg some e, e1, e2, e3⟩
  refine ⟨g.ex, by unfold selR; rw [List.length_map, lk], fun i i' p h1 h2 => ?_, fun i p c h1 h2 => ?_, True.intro⟩
  · obtain ⟨j, _, y1, y2, _⟩ := get h1
    obtain ⟨j', _, z1, z2, _⟩ := get h2
    have e := g.inj j j' p y2 z2
    subst e
    have l1 := (List.getElem?_eq_some_iff.mp y1)
    have l2 := (List.getElem?_eq_some_iff.mp z1)
    obtain ⟨a1, b1⟩ := l1
    obtain ⟨a2, b2⟩ := l2
    exact (List.getElem_inj nd).mp (b1.trans b2.symm)
  · obtain ⟨j, c', y1, y2, y3, y4, y5⟩ := get h1
    rw [h2] at y4; cases y4
    exact (g.at' j p c y2 y3).cl y5
theorem se_call {F : FSp} {ta : TA} {fa : AA} {E : XK} {E' : AX → AK → Prop} (ha : SA K ta fa) (hx : ∀ B' ρ' κ' H' x cls d, G K B' ρ' κ' H' → E' x κ' → RepX K B' x cls d → E cls d H') : SE K (tCall (spA K F) [] E ta) (aCall F E' fa) := fun B ρ δ κ σ H R Q s g h q =>
  ha B ρ δ κ σ H _ _ s g h fun B1 ρ1 κ1 H1 as vs w1 g1 r1 hcw => by
    obtain ⟨js, asl, κl, nd, e1, e2, hF⟩ := callW_e hcw
    show spA K F (vs ++ []) H1 Q E
    rw [List.append_nil]
    refine ⟨B1, selR js ρ1, κl, asl, _, _, sel_ok g1 nd e2, selAs_ok (fun i j p h1 h2 => selR_get h1 h2) e1 r1, hF, ?_, ?_⟩
    · rintro B' ρ' κ' H' a v w2 g2 r2 ⟨l, cl, lv, hR⟩
      obtain ⟨w3, g3, r3⟩ := back_ok g1 nd e2 w2 g2 l cl lv
      exact q _ _ _ _ _ _ (w1.trans w3) g3 (r3 r2) hR
    · rintro B' ρ' κ' H' x cls d w2 g2 r2 ⟨l, cl, lv, hR⟩
      obtain ⟨w3, g3, r3⟩ := back_ok g1 nd e2 w2 g2 l cl lv
      exact hx _ _ _ _ _ _ _ g3 hR r2
section
variable {l : Nat} {fa : Addr} {fd : FuncData} {ps : List Str} {F : FSp} {x : Str} {q pos : Pos} {es : List Expr} {ta : TA} {ga : AA}
/-- f(..) of a def from which nothing is raised -/
theorem ea_call (Fo : FnOk X.prog X.w X.K X.mg X.base CX0 l fa fd ps (spA K F)) (hr : Room l X.A) (hg : Gl X x) (hm : X.mg x = some (.ref fa)) (hk : PySem.W.keepIn X.K (.ref fa) = true) (hb : Binds X.K fd ps []) (ha : PAa K X (e :: es) ta ga)
    (hdb : (x == ("__debug__" : Str)) = false := by decide) (he : starEach (e :: es) X.env = (false, eval e X.env) :: starEach es X.env := by rfl) (hpl : (backTo pos (starEach es X.env)).any (·.1) = false := by rfl) (hK : X.K = K := by rfl) :
    PEa K X (.Call (.Name x q) (e :: es) [] pos) (tCall (spA K F) [] E0 ta) (aCall F (fun _ _ => False) ga) := by
  obtain ⟨K, Kn, KZ, Ku⟩ := K
  change X.K = K at hK
  subst hK
  exact ⟨pe_call Fo hr hg hm hk hb .nil pass0 ha.pa hdb he hpl, se_call ha.sd fun _ _ _ _ _ _ _ _ h => h.elim⟩
end
end Ab
set_option Elab.async false
set_option linter.all false
set_option maxRecDepth 100000
set_option maxHeartbeats 4000000
/-! Ab7: the law's own promise, constants of the top, small things -/
namespace Ab
open PySem L2
variable {K : PySem.W.Frag} {B B' H H' : Hp} {ρ ρ' : List Addr} {κ κ' : AK} {X : Cx}
/-- the law: True at every script -/
def F_law : FSp := fun as κ R _ => ∃ ns : List Int, as = [.d (.list (ns.map .int))] ∧ κ = [] ∧ ns.length ≤ 63 ∧ R (.d (.bool true)) []
theorem dpa_ints : ∀ ns : List Int, DpAll K B (ns.map V.int) (ns.map .int)
  | [] => .nil
  | n :: ns => .cons (.int n) (dpa_ints ns)
theorem law_start {H : Hp} {a : Addr} {ns : List Int} (hl : ns.length ≤ 63) (hS : SqL K H a (ns.map V.int)) : spA K F_law [.ref a] H (fun v _ => v = .bl true) (fun _ _ _ => False) :=
  ⟨H, [], [], [.d (.list (ns.map .int))], fun a _ => a = .d (.bool true), fun _ _ => False, ⟨Same.refl H, rfl, fun i j p h => by simp at h, fun k p c h => by simp at h, True.intro⟩, .cons (.lst hS (dpa_ints ns)) .nil, ⟨ns, rfl, rfl, hl, rfl⟩,
    fun B' ρ' κ' H' a v w g r e => by subst e; exact r.bool, fun _ _ _ _ _ _ _ _ _ _ h => h.elim⟩
theorem len_law : ∀ as κ R E', F_law as κ R E' → as.length = (["script"] : List Str).length := by
  rintro as κ R E' ⟨ns, rfl, _⟩; rfl
theorem fd_all {P : Program} {w : World} {mg : Str → Option Value} {l : Nat} {fa : Addr} {sp : Sp} (h : ∃ fd : FuncData, (∀ (s : Shared) (v : Value), BindsTo s fd ⟨[v], []⟩ [("script", v)]) ∧ ∀ (P : Program) (w : World) (base : Heap), FnOk P w K mg base CX0 l fa fd ["script"] sp) :
    ∃ fd : FuncData, (∀ (s : Shared) (v : Value), BindsTo s fd ⟨[v], []⟩ [("script", v)]) ∧ ∀ base : Heap, K.In base → base.Ns mainGlobals mg → FnOk P w K mg base CX0 l fa fd ["script"] sp := by
  obtain ⟨fd, h1, h2⟩ := h
  exact ⟨fd, h1, fun base _ _ => h2 P w base⟩
theorem sp_imp {F F' : FSp} (h : ∀ as κ R E', F as κ R E' → F' as κ R E') {vs : List V} {Q : VK} {E : XK} (s : spA K F vs H Q E) : spA K F' vs H Q E := by
  obtain ⟨B, ρ, κ, as, R, E', g, r, f, q⟩ := s
  exact ⟨B, ρ, κ, as, R, E', g, r, h _ _ _ _ f, q⟩
/-- a tuple of texts of the top -/
inductive StrVals : List Value → List PyData → Prop where
  | nil : StrVals [] []
  | cons (x : Str) (t : Tok) {vs : List Value} {ds : List PyData} : StrVals vs ds → StrVals (.str x t :: vs) (.str x :: ds)
theorem strVals_v {vs : List Value} {ds : List PyData} (h : StrVals vs ds) : ∃ xs : List V, Vals xs vs ∧ DpAll K B xs ds := by
  induction h with
  | nil => exact ⟨[], .nil, .nil⟩
  | cons x t _ ih => obtain ⟨xs, h1, h2⟩ := ih; exact ⟨.str x :: xs, .cons ⟨t, rfl⟩ h1, .cons (.str x) h2⟩
theorem dp_strs {a : Addr} {o : Obj} {n : Nat} {vs : Array Value} {ds : List PyData} (h : K.lookup a = some o) (hc : o.cls = .type "tuple") (hd : o.data = .seq vs n) (hz : vs.size ≤ sizeLine) (hs : StrVals vs.toList ds) : Dp K B (.ref a) (.tuple ds) := by
  obtain ⟨xs, h1, h2⟩ := strVals_v (K := K) (B := B) hs
  exact .tup (.inr ⟨o, vs, n, h, hc, hd, hz, h1⟩) h2
/-- min of two numbers -/
def aMin2 : List AV → AK → AR → Prop := fun as κ R => match as with
  | [.d (.int i), .d (.int j)] => R (.d (.int (if j < i then j else i))) κ
  | _ => False
theorem ca_min {K : Frg} (hc : X.calm = true) : CallA K X (.builtin "min") (fun xs H Q => ∃ i j, xs = [.int i, .int j] ∧ Q (.int (if j < i then j else i)) H) aMin2 := ⟨call_min2 hc, fun B ρ κ H xs as R Q g rs h q => by
  unfold aMin2 at h
  split at h
  · obtain ⟨x, y, rfl, r1, r2⟩ := reps2 rs
    exact ⟨_, _, by rw [r1.int, r2.int], q.at0 g (rp_int _) h⟩
  · exact h.elim⟩
/-- isinstance's answers -/
theorem kit_b (a b : String) (r : Bool) (h : kitB a b = some r) : kitB a b = some r := h

/-! comprehensions: over known items, over a range, over a text, over the cell at k -/
variable {ag : AG} {pt : AT} {f : AE} {vs : List Nat} {δ : AD} {κ1 : AK} {R : AR}
theorem lc_d {xs : List PyData} (Pv : Nat → List PyData → AK → Prop) (h0 : Pv 0 [] κ1) (hd : ∀ acc κ', Pv xs.length acc κ' → R (.d (.list acc)) κ')
    (hs : ∀ i x acc κ', xs[i]? = some x → Pv i acc κ' → ag (.d x) (wipeA δ vs) κ' fun δ2 κ2 => pt δ2 κ2 fun b κ3 => bsel b (f δ2 κ3 fun y κ4 => ∃ d, y = .d d ∧ acc.length < sizeLine ∧ Pv (i + 1) (acc ++ [d]) κ4) (Pv (i + 1) acc κ3)) : LcW (itD xs) ag pt f vs δ κ1 R := by
  refine lcw.mpr ⟨fun i m acc κ' => m = xs.length - i ∧ i ≤ xs.length ∧ Pv i acc κ', ⟨_, rfl, Nat.zero_le _, h0⟩, ?_⟩
  rintro i m acc κ' ⟨rfl, hi, p⟩
  by_cases hlt : i < xs.length
  · refine .inr ⟨hlt, Pv (i + 1), fun _ _ q => ⟨xs.length - (i + 1), by omega, rfl, hlt, q⟩, ?_⟩
    rintro a ⟨x, hx, rfl⟩
    exact hs i x acc κ' hx p
  · have e : i = xs.length := by omega
    subst e
    exact .inl ⟨Nat.le_refl _, hd _ _ p⟩
theorem lc_r {lo : Int} {N : Nat} (Pv : Nat → List PyData → AK → Prop) (h0 : Pv 0 [] κ1) (hd : ∀ acc κ', Pv N acc κ' → R (.d (.list acc)) κ')
    (hs : ∀ i acc κ', i < N → Pv i acc κ' → ag (.d (.int (lo + i))) (wipeA δ vs) κ' fun δ2 κ2 => pt δ2 κ2 fun b κ3 => bsel b (f δ2 κ3 fun y κ4 => ∃ d, y = .d d ∧ acc.length < sizeLine ∧ Pv (i + 1) (acc ++ [d]) κ4) (Pv (i + 1) acc κ3)) : LcW (itR lo N) ag pt f vs δ κ1 R := by
  refine lcw.mpr ⟨fun i m acc κ' => m = N - i ∧ i ≤ N ∧ Pv i acc κ', ⟨_, rfl, Nat.zero_le _, h0⟩, ?_⟩
  rintro i m acc κ' ⟨rfl, hi, p⟩
  by_cases hlt : i < N
  · refine .inr ⟨hlt, Pv (i + 1), fun _ _ q => ⟨N - (i + 1), by omega, rfl, hlt, q⟩, ?_⟩
    rintro a rfl
    exact hs i acc κ' hlt p
  · have e : i = N := by omega
    subst e
    exact .inl ⟨Nat.le_refl _, hd _ _ p⟩
theorem lc_c {k : Nat} {xs : List PyData} (Pv : Nat → List PyData → AK → Prop) (h0 : Pv 0 [] κ1) (hk : ∀ i acc κ', Pv i acc κ' → κ'[k]? = some (.ld xs)) (hd : ∀ acc κ', Pv xs.length acc κ' → R (.d (.list acc)) κ')
    (hs : ∀ i x acc κ', xs[i]? = some x → Pv i acc κ' → ag (.d x) (wipeA δ vs) κ' fun δ2 κ2 => pt δ2 κ2 fun b κ3 => bsel b (f δ2 κ3 fun y κ4 => ∃ d, y = .d d ∧ acc.length < sizeLine ∧ Pv (i + 1) (acc ++ [d]) κ4) (Pv (i + 1) acc κ3)) : LcW (itC k) ag pt f vs δ κ1 R := by
  refine lcw.mpr ⟨fun i m acc κ' => m = xs.length - i ∧ i ≤ xs.length ∧ Pv i acc κ', ⟨_, rfl, Nat.zero_le _, h0⟩, ?_⟩
  rintro i m acc κ' ⟨rfl, hi, p⟩
  by_cases hlt : i < xs.length
  · refine .inr ⟨⟨xs, hk _ _ _ p, hlt⟩, Pv (i + 1), fun _ _ q => ⟨xs.length - (i + 1), by omega, rfl, hlt, q⟩, ?_⟩
    rintro a ⟨ys, x, hy, hx, rfl⟩
    rw [hk _ _ _ p] at hy; cases hy
    exact hs i x acc κ' hx p
  · have e : i = xs.length := by omega
    subst e
    exact .inl ⟨⟨xs, hk _ _ _ p, Nat.le_refl _⟩, hd _ _ p⟩
/-! items at places -/
theorem at_mem {α : Type} {xs : List α} {i : Int} (h0 : 0 ≤ i) (h : i < xs.length) : ∃ w, atI xs i = some w ∧ w ∈ xs ∧ xs[i.toNat]? = some w := by
  obtain ⟨j, rfl⟩ := Int.eq_ofNat_of_zero_le h0
  have hj : j < xs.length := by omega
  exact ⟨xs[j], atI_nat (List.getElem?_eq_getElem hj), List.getElem_mem hj, by simpa using List.getElem?_eq_getElem hj⟩
theorem at_nat {α : Type} {xs : List α} {j : Nat} {w : α} (h : xs[j]? = some w) : atI xs (j : Int) = some w := atI_nat h
/-! texts -/
abbrev tl (x : Str) : List Nat := x.cps.toList
theorem tl_app (a b : Str) : tl (a ++ b) = tl a ++ tl b := by
  show (a.cps ++ b.cps).toList = _
  rw [Array.toList_append]
theorem tl_len (a : Str) : a.length = (tl a).length := by
  show a.cps.size = a.cps.toList.length
  rw [Array.length_toList]
theorem tl_inj {a b : Str} (h : tl a = tl b) : a = b := by
  obtain ⟨x⟩ := a
  obtain ⟨y⟩ := b
  congr 1
  exact Array.toList_inj.mp h
theorem tl_one (c : Nat) : tl ⟨#[c]⟩ = [c] := rfl
theorem inD_str (z : Str) (xs : List Str) : inD (.str z) (xs.map .str) = decide (z ∈ xs) := by
  induction xs with
  | nil => rfl
  | cons x xs ih =>
    show (x == z || inD (.str z) (xs.map .str)) = _
    rw [ih, Bool.eq_iff_iff]
    simp only [Bool.or_eq_true, beq_iff_eq, decide_eq_true_eq, List.mem_cons]
    constructor
    · rintro (h | h)
      · exact .inl h.symm
      · exact .inr h
    · rintro (h | h)
      · exact .inl h.symm
      · exact .inr h
theorem flat_strs (xs : List Str) : (xs.map PyData.str).all flatD = true := by
  induction xs with
  | nil => rfl
  | cons x xs ih => exact ih
/-! slots forgotten -/
theorem wipeA_some {δ : AD} : ∀ {vs : List Nat} {i : Nat} {a : AV}, (wipeA δ vs)[i]? = some (some a) → δ[i]? = some (some a)
  | [], _, _, h => h
  | v :: vs, i, a, h => by
    have h : ((wipeA δ vs).set v none)[i]? = some (some a) := h
    rw [List.getElem?_set] at h
    split at h
    · split at h <;> cases h
    · exact wipeA_some h
theorem wipeA_len (δ : AD) : ∀ vs : List Nat, (wipeA δ vs).length = δ.length
  | [] => rfl
  | v :: vs => by
    show ((wipeA δ vs).set v none).length = _
    rw [List.length_set, wipeA_len]
theorem GhS.wipe {n : Nat} {δ : AD} (vs : List Nat) (l : n ≤ κ.length) : GhS K n δ κ (wipeA δ vs) κ := GhS.forget l (wipeA_len δ vs) fun _ _ h => wipeA_some h
end Ab
set_option Elab.async false
set_option linter.all false
set_option maxRecDepth 100000
set_option maxHeartbeats 4000000
/-! Com: the helpers that the laws share -/
namespace Com
open PySem L2 Ab
variable {K : PySem.W.Frag}
/-! ### the source of numbers -/
def srcK (ns : List Int) (i x y : Int) : Cell := .ld [.list (ns.map .int), .int i, .int x, .int y]
def isSrc (c : Cell) : Prop := ∃ ns i x y, c = srcK ns i x y ∧ 0 ≤ i
theorem isSrc.cl {c : Cell} (h : isSrc c) : clC c = true ∧ liveC c = true := by
  obtain ⟨ns, i, x, y, rfl, _⟩ := h
  exact ⟨rfl, rfl⟩
def F__law_source : FSp := fun as κ R _ => ∃ ns : List Int, as = [.d (.list (ns.map .int))] ∧ κ = [] ∧ ∀ s, isSrc s → R (.c 0) [s]
abbrev N__law_source : List Str := ["script"]
def a__law_source (K : PySem.W.Frag) : AS :=
  (aRet (aLst (aCons (aCB (aListOf false) (aCons (aVar 0) aNil)) (aCons (aC (.d (.int 0))) (aCons (aC (.d (.int 0))) (aCons (aC (.d (.int 7))) aNil))))))
theorem len__law_source : ∀ as κ R E', F__law_source as κ R E' → as.length = (["script"] : List Str).length := by
  rintro as κ R E' ⟨ns, rfl, _⟩; rfl
theorem rd__law_source : ∀ as κ R E', F__law_source as κ R E' → a__law_source K (endsA K κ.length R) (startA N__law_source as) κ := by
  rintro as κ R E' ⟨ns, rfl, rfl, h⟩
  exact ⟨(show 4 ≤ sizeLine by decide), _, _, GhR.refl (Nat.zero_le _), h _ ⟨ns, 0, 0, 7, rfl, by decide⟩⟩
def F__law_pick : FSp := fun as κ R _ => ∃ s m, as = [.c 0, .d (.int m)] ∧ κ = [s] ∧ isSrc s ∧ 0 < m ∧ m < 1000000 ∧ ∀ v s', isSrc s' → 0 ≤ v → v < m → R (.d (.int v)) [s']
abbrev N__law_pick : List Str := ["source", "many", "cell", "picked", "mixed"]
def a__law_pick (K : PySem.W.Frag) : AS :=
  (aCut (aIfS (aAnd (aB (aOp aEq (aOp aIx (aVar 0) (aC (.d (.int 2)))) (aC (.d (.int 0))))) (aB (aOp aLt (aOp aIx (aVar 0) (aC (.d (.int 1)))) (aCB aLen (aCons (aOp aIx (aVar 0) (aC (.d (.int 0)))) aNil))))) (aSeq (aSet 2 (aOp aIx (aOp aIx (aVar 0) (aC (.d (.int 0)))) (aOp aIx (aVar 0) (aC (.d (.int 1)))))) (aSeq (aAsg (aOp aAdd (aOp aIx (aVar 0) (aC (.d (.int 1)))) (aC (.d (.int 1)))) (aGSub (aVar 0) (aC (.d (.int 1))) aSetL)) (aIfS (aB (aOp aGt (aVar 2) (aOp aPow (aC (.d (.int 10))) (aC (.d (.int 18)))))) (aAsg (aOp aSub (aVar 2) (aOp aPow (aC (.d (.int 10))) (aC (.d (.int 18))))) (aGSub (aVar 0) (aC (.d (.int 2))) aSetL)) (aAsg (aOp aMod (aCB aIntOf (aCons (aOp aAdd (aOp aMul (aOp aIx (aVar 0) (aC (.d (.int 3)))) (aC (.d (.int 16807)))) (aVar 2)) aNil)) (aC (.d (.int 2147483647)))) (aGSub (aVar 0) (aC (.d (.int 3))) aSetL))))) aNext) (aSeq (aIfS (aB (aOp aGt (aOp aIx (aVar 0) (aC (.d (.int 2)))) (aC (.d (.int 0))))) (aSeq (aSet 3 (aOp aMod (aCB aIntOf (aCons (aOp aIx (aVar 0) (aC (.d (.int 2)))) aNil)) (aVar 1))) (aSeq (aAsg (aOp aDiv (aOp aIx (aVar 0) (aC (.d (.int 2)))) (aVar 1)) (aGSub (aVar 0) (aC (.d (.int 2))) aSetL)) (aRet (aVar 3)))) aNext) (aSeq (aAsg (aOp aMod (aCB aIntOf (aCons (aOp aAdd (aOp aMul (aOp aIx (aVar 0) (aC (.d (.int 3)))) (aC (.d (.int 48271)))) (aC (.d (.int 12345)))) aNil)) (aC (.d (.int 2147483647)))) (aGSub (aVar 0) (aC (.d (.int 3))) aSetL)) (aSeq (aSet 4 (aOp aMul (aOp aMul (aOp aAdd (aOp aMod (aCB aIntOf (aCons (aOp aIx (aVar 0) (aC (.d (.int 3)))) aNil)) (aC (.d (.int 46337)))) (aC (.d (.int 1)))) (aOp aAdd (aOp aDiv (aOp aIx (aVar 0) (aC (.d (.int 3)))) (aC (.d (.int 46337)))) (aC (.d (.int 7))))) (aC (.d (.int 16807))))) (aRet (aOp aMod (aOp aDiv (aOp aMod (aCB aIntOf (aCons (aVar 4) aNil)) (aC (.d (.int 2147483629)))) (aC (.d (.int 32)))) (aVar 1)))))))
theorem len__law_pick : ∀ as κ R E', F__law_pick as κ R E' → as.length = (["source", "many"] : List Str).length := by
  rintro as κ R E' ⟨s, m, rfl, _⟩; rfl
theorem at_ints {ns : List Int} {i : Int} (h0 : 0 ≤ i) (h : i < ns.length) : ∃ v, atI (ns.map PyData.int) i = some (.int v) := by
  obtain ⟨j, rfl⟩ := Int.eq_ofNat_of_zero_le h0
  have hj : j < ns.length := by omega
  exact ⟨ns[j], atI_nat (by rw [List.getElem?_map, List.getElem?_eq_getElem hj]; rfl)⟩
theorem cp18 : CPow 10 18 := ⟨by decide, by decide, by decide⟩
theorem mod_small (a : Int) : -(2 ^ 64) < a % 46337 + 1 ∧ a % 46337 + 1 < 2 ^ 64 := by omega
theorem rd__law_pick : ∀ as κ R E', F__law_pick as κ R E' → a__law_pick K (endsA K κ.length R) (startA N__law_pick as) κ := by
  rintro as κ R E' ⟨s, m, rfl, rfl, ⟨ns, i, x, y, rfl, hi⟩, h0, h1, h⟩
  have fin : ∀ v ns i x y, 0 ≤ i → 0 ≤ v → v < m → (endsA K [srcK ns i x y].length R).rt (.d (.int v)) [srcK ns i x y] := fun v ns i x y hi hv hm => ⟨_, _, GhR.refl (Nat.le_refl _), h _ _ ⟨ns, i, x, y, rfl, hi⟩ hv hm⟩
  have hd : CDiv 0 m := ⟨h0, by omega⟩
  refine ⟨fun δ κ => ∃ i x y c, δ = [some (.c 0), some (.d (.int m)), c, none, none] ∧ κ = [srcK ns i x y] ∧ 0 ≤ i, ?_, ?_⟩
  · refine ⟨_, rfl, bsel_i (fun hx => ?_) fun _ => ⟨i, x, y, _, rfl, rfl, hi⟩⟩
    refine ⟨_, rfl, _, rfl, bsel_i (fun hl => ?_) fun _ => ⟨i, x, y, _, rfl, rfl, hi⟩⟩
    have hl' : i < ns.length := by have := of_decide_eq_true hl; simpa using this
    obtain ⟨v, hv⟩ := at_ints hi hl'
    refine ⟨_, rfl, _, rfl, _, hv, _, rfl, _, rfl, cp18, bsel_i (fun hb => ?_) fun hb => ?_⟩
    · exact ⟨cp18, _, rfl, _, _, _, _, rfl, rfl, by omega⟩
    · exact ⟨_, rfl, .inr (by decide), (by decide : (0 : Int) < 2147483647), _, rfl, _, _, _, _, rfl, rfl, by omega⟩
  · rintro δ κ ⟨i, x, y, c, rfl, rfl, hi⟩ _
    refine ⟨_, rfl, bsel_i (fun hx => ?_) fun _ => ?_⟩
    · refine ⟨_, rfl, h0, _, rfl, ⟨h0, by omega⟩, _, rfl, fin _ _ _ _ _ hi (Int.emod_nonneg _ (by omega)) (Int.emod_lt_of_pos _ h0)⟩
    · exact ⟨_, rfl, .inr (by decide), (by decide : (0 : Int) < 2147483647), _, rfl, _, rfl, (by decide : (0 : Int) < 46337), _, rfl, ⟨by decide, by decide⟩, .inl (mod_small _), .inr (by decide), (by decide : (0 : Int) < 2147483629), ⟨by decide, by decide⟩, h0, fin _ _ _ _ _ hi (Int.emod_nonneg _ (by omega)) (Int.emod_lt_of_pos _ h0)⟩

theorem sel0 {s : Cell} {κr : AK} (h : isSrc s) : selK [0] (s :: κr) = some [s] := by
  show (if clC s = true then some [s] else none) = _
  rw [if_pos h.cl.1]
theorem isSrc.fz {s : Cell} {k : Nat} {d : PyData} (h : isSrc s) : isSrc (fzC k d s) := by
  obtain ⟨ns, i, x, y, rfl, hi⟩ := h; exact ⟨ns, i, x, y, rfl, hi⟩
theorem cl1_ok {s c : Cell} (h : isSrc s) : (([s, c] : AK).take 1).all (okC 1) = true := by
  obtain ⟨ns, i, x, y, rfl, _⟩ := h; rfl
theorem cl1 {s : Cell} (h : isSrc s) : ([s] : AK).all clC = true := List.all_eq_true.mpr fun c hc => by rw [List.mem_singleton.mp hc]; exact h.cl.1
theorem pick_w {s : Cell} {κr : AK} {m : Int} {E : AX → AK → Prop} {R : AR} (hs : isSrc s) (h0 : 0 < m) (h1 : m < 1000000) (k : ∀ v s', isSrc s' → 0 ≤ v → v < m → R (.d (.int v)) (s' :: κr)) : callW F__law_pick E [.c 0, .d (.int m)] (s :: κr) R :=
  callW_i ⟨[0], _, _, by decide, rfl, sel0 hs, s, m, rfl, rfl, hs, h0, h1, fun v s' hs' hv0 hv => ⟨Nat.le_refl _, cl1 hs', rfl, k v s' hs' hv0 hv⟩⟩
/-! ### signs, names -/
def low (c : Nat) : Prop := 97 ≤ c ∧ c ≤ 122
def dig (c : Nat) : Prop := 48 ≤ c ∧ c ≤ 57
def run (c : Nat) : Prop := low c ∨ dig c
instance (c : Nat) : Decidable (low c) := by unfold low; exact inferInstance
instance (c : Nat) : Decidable (dig c) := by unfold dig; exact inferInstance
instance (c : Nat) : Decidable (run c) := by unfold run; exact inferInstance
def wordsL : List Str := ["pact", "end", "choice", "both", "loop", "use"]
def isName (z : Str) : Prop := (∃ c r, tl z = c :: r ∧ low c ∧ (∀ x ∈ r, run x) ∧ r.length ≤ 11) ∧ z ∉ wordsL
abbrev alnum : Str := "abcdefghijklmnopqrstuvwxyz0123456789"
theorem alnum_len : alnum.length = 36 := by decide +kernel
theorem alnum_mem {c : Nat} : c ∈ tl alnum ↔ run c := by
  have h : tl alnum = (List.range 26).map (97 + ·) ++ (List.range 10).map (48 + ·) := by decide +kernel
  rw [h, List.mem_append, List.mem_map, List.mem_map]
  unfold run low dig
  constructor
  · rintro (⟨i, hi, rfl⟩ | ⟨i, hi, rfl⟩) <;> rw [List.mem_range] at hi <;> omega
  · rintro (h | h)
    · exact .inl ⟨c - 97, by rw [List.mem_range]; omega, by omega⟩
    · exact .inr ⟨c - 48, by rw [List.mem_range]; omega, by omega⟩
theorem alnum_low : ∀ j : Nat, j < 26 → ∀ c, (tl alnum)[j]? = some c → low c := by
  have h : tl alnum = (List.range 26).map (97 + ·) ++ (List.range 10).map (48 + ·) := by decide +kernel
  intro j hj c hc
  rw [h, List.getElem?_append_left (by simpa using hj), List.getElem?_map, List.getElem?_range hj] at hc
  simp at hc
  unfold low; omega
theorem sl100 {n : Nat} (h : n ≤ 100000) : n ≤ sizeLine := Nat.le_trans h (by decide)
theorem al_sl : alnum.length ≤ sizeLine := by rw [alnum_len]; decide
/-- blanks -/
def blankC (c : Nat) : Prop := c = 32 ∨ c = 10
def isBlank (b : Str) : Prop := (∀ c ∈ tl b, blankC c) ∧ b.length ≤ 2
def F__law_blank : FSp := fun as κ R _ => ∃ s least, as = [.c 0, .d (.bool least)] ∧ κ = [s] ∧ isSrc s ∧ ∀ b s', isSrc s' → isBlank b → (least = true → b ≠ "") → R (.d (.str b)) [s']
abbrev N__law_blank : List Str := ["source", "least", "blank"]
def a__law_blank (K : PySem.W.Frag) : AS :=
  (aSeq (aSet 2 (aOp aIx (aLstD (aCons (aC (.d (.str ""))) (aCons (aC (.d (.str ""))) (aCons (aC (.d (.str " "))) (aCons (aC (.d (.str "\n"))) (aCons (aC (.d (.str "  "))) (aCons (aC (.d (.str " \n"))) aNil))))))) (aCall F__law_pick (fun _ _ => False) (aCons (aVar 0) (aCons (aC (.d (.int 6))) aNil))))) (aSeq (aIfS (aAnd (aB (aOp aEq (aVar 2) (aC (.d (.str ""))))) (aTru (aVar 1))) (aRet (aOp aIx (aLstD (aCons (aC (.d (.str " "))) (aCons (aC (.d (.str "\n"))) aNil))) (aCall F__law_pick (fun _ _ => False) (aCons (aVar 0) (aCons (aC (.d (.int 2))) aNil))))) aNext) (aRet (aVar 2))))
theorem len__law_blank : ∀ as κ R E', F__law_blank as κ R E' → as.length = (["source", "least"] : List Str).length := by
  rintro as κ R E' ⟨s, m, rfl, _⟩; rfl
theorem blanks6 {w : PyData} (h : w ∈ ([.str "", .str "", .str " ", .str "\n", .str "  ", .str " \n"] : List PyData)) : ∃ b, w = .str b ∧ isBlank b := by
  simp only [List.mem_cons, List.mem_nil_iff, or_false] at h
  rcases h with rfl | rfl | rfl | rfl | rfl | rfl <;> refine ⟨_, rfl, ?_, ?_⟩ <;> first | decide +kernel | (unfold blankC; decide +kernel)
theorem blanks2 {w : PyData} (h : w ∈ ([.str " ", .str "\n"] : List PyData)) : ∃ b, w = .str b ∧ isBlank b ∧ b ≠ "" := by
  simp only [List.mem_cons, List.mem_nil_iff, or_false] at h
  rcases h with rfl | rfl <;> refine ⟨_, rfl, ⟨?_, ?_⟩, ?_⟩ <;> first | decide +kernel | (unfold blankC; decide +kernel)
theorem rd__law_blank : ∀ as κ R E', F__law_blank as κ R E' → a__law_blank K (endsA K κ.length R) (startA N__law_blank as) κ := by
  rintro as κ R E' ⟨s, least, rfl, rfl, hs, h⟩
  have fin : ∀ s b, isSrc s → isBlank b → (least = true → b ≠ "") → (endsA K [s].length R).rt (.d (.str b)) [s] := fun s b h1 h2 h3 => ⟨_, _, GhR.refl (Nat.le_refl _), h _ _ h1 h2 h3⟩
  refine ⟨(show 6 ≤ sizeLine by decide), ?_⟩
  refine pick_w hs (by decide) (by decide) fun v s' hs' hv0 hv => ?_
  obtain ⟨w, hw, hm, _⟩ := at_mem (xs := ([.str "", .str "", .str " ", .str "\n", .str "  ", .str " \n"] : List PyData)) hv0 hv
  obtain ⟨b, rfl, hb⟩ := blanks6 hm
  refine ⟨_, hw, bsel_i (fun he => ?_) fun he => ?_⟩
  · cases least with
    | false => exact fin _ _ hs' hb (fun z => by cases z)
    | true =>
      refine ⟨(show 2 ≤ sizeLine by decide), ?_⟩
      refine pick_w hs' (by decide) (by decide) fun v s2 hs2 hv0 hv => ?_
      obtain ⟨w, hw, hm, _⟩ := at_mem (xs := ([.str " ", .str "\n"] : List PyData)) hv0 hv
      obtain ⟨b2, rfl, hb2, hn⟩ := blanks2 hm
      exact ⟨_, hw, fin _ _ hs2 hb2 fun _ => hn⟩
  · exact fin _ _ hs' hb fun _ => of_decide_eq_false he

theorem bsel_or {c d : Bool} {S F X : Prop} (h : (c || d) = true → S) (h' : (c || d) = false → F) (k : bsel d S F → X) : bsel c (bsel true S F) X := by
  cases c with
  | true => exact h rfl
  | false => exact k (by cases d with | true => exact h rfl | false => exact h' rfl)
/-! ### a name -/
def spare (i : Nat) : Str := "q" ++ Str.ofString (toString ((i : Nat) : Int))
theorem tl_q : tl "q" = [113] := by decide +kernel
theorem tl_spare (i : Nat) : tl (spare i) = 113 :: TL.numL i := by
  unfold spare
  rw [tl_app, tl_q]
  show [113] ++ TL.tl _ = _
  rw [TL.tl_num]; rfl
theorem spare_inj {i j : Nat} (h : spare i = spare j) : i = j := by
  have e := congrArg tl h
  rw [tl_spare, tl_spare] at e
  exact TL.numL_inj (List.cons.inj e).2
theorem words_heads : ∀ w ∈ wordsL, (tl w).head? ≠ some 113 := by decide +kernel
theorem spare_name {i : Nat} (h : i ≤ 100000) : isName (spare i) := by
  refine ⟨⟨113, TL.numL i, tl_spare i, by decide, fun x hx => ?_, ?_⟩, fun hm => ?_⟩
  · have := TL.numL_digits i x hx
    right; unfold dig; simpa using this
  · have := TL.numL_len (n := i) (k := 6) (by decide) (by omega); omega
  · have := words_heads _ hm
    rw [tl_spare] at this; exact this rfl
theorem spare_free (tk : List Str) : ∃ i, i < tk.length + 1 ∧ spare i ∉ tk := by
  apply Classical.byContradiction
  intro hn
  have all : ∀ i, i < tk.length + 1 → spare i ∈ tk := fun i hi => Classical.byContradiction fun h => hn ⟨i, hi, h⟩
  have nd : ((List.range (tk.length + 1)).map spare).Nodup := by
    rw [List.Nodup, List.pairwise_map]
    exact List.nodup_range.imp fun h e => h (spare_inj e)
  have := List.Nodup.length_le_of_subset nd (l₂ := tk) (fun x hx => by
    obtain ⟨i, hi, rfl⟩ := List.mem_map.mp hx
    exact all i (List.mem_range.mp hi))
  rw [List.length_map, List.length_range] at this
  omega
theorem wordsD : ([.str "pact", .str "end", .str "choice", .str "both", .str "loop", .str "use"] : List PyData) = wordsL.map .str := rfl
def F__law_name : FSp := fun as κ R _ => ∃ (s : Cell) (tk : List Str), as = [.c 0, .d (.list (tk.map .str))] ∧ κ = [s] ∧ isSrc s ∧ tk.length ≤ 10000 ∧ ∀ z s', isSrc s' → isName z → z ∉ tk → R (.d (.str z)) [s']
abbrev N__law_name : List Str := ["source", "taken", "letters", "name", "k", "spare", "one"]
def a__law_name (K : PySem.W.Frag) : AS :=
  (aSeq (aSet 2 (aC (.d (.str "abcdefghijklmnopqrstuvwxyz0123456789")))) (aSeq (aSet 3 (aOp aIx (aVar 2) (aCall F__law_pick (fun _ _ => False) (aCons (aVar 0) (aCons (aC (.d (.int 26))) aNil))))) (aSeq (aFor (aRng1 (aCons (aOp aIx (aLstD (aCons (aC (.d (.int 0))) (aCons (aC (.d (.int 0))) (aCons (aC (.d (.int 1))) (aCons (aC (.d (.int 2))) (aCons (aCall F__law_pick (fun _ _ => False) (aCons (aVar 0) (aCons (aC (.d (.int 12))) aNil))) aNil)))))) (aCall F__law_pick (fun _ _ => False) (aCons (aVar 0) (aCons (aC (.d (.int 5))) aNil)))) aNil)) (aName 4) (aSet 3 (aOp aAdd (aVar 3) (aOp aIx (aVar 2) (aCall F__law_pick (fun _ _ => False) (aCons (aVar 0) (aCons (aC (.d (.int 36))) aNil))))))) (aSeq (aIfS (aOr (aB (aOp (aIn id) (aVar 3) (aVar 1))) (aB (aOp (aIn id) (aVar 3) (aTup (aCons (aC (.d (.str "pact"))) (aCons (aC (.d (.str "end"))) (aCons (aC (.d (.str "choice"))) (aCons (aC (.d (.str "both"))) (aCons (aC (.d (.str "loop"))) (aCons (aC (.d (.str "use"))) aNil)))))))))) (aSeq (aSet 5 (aLc (aRng1 (aCons (aOp aAdd (aCB aLen (aCons (aVar 1) aNil)) (aC (.d (.int 1)))) aNil)) (aName 4) aYes (aOp aAdd (aC (.d (.str "q"))) (aCB aStrOf (aCons (aVar 4) aNil))) [4])) (aRet (aOp aIx (aLc (aIter (aVar 5)) (aName 6) (aB (aOp (aIn not) (aVar 6) (aVar 1))) (aVar 6) [6]) (aC (.d (.int 0)))))) aNext) (aRet (aVar 3))))))
theorem len__law_name : ∀ as κ R E', F__law_name as κ R E' → as.length = (["source", "taken"] : List Str).length := by
  rintro as κ R E' ⟨s, m, rfl, _⟩; rfl
def nmOf (z : Str) (i : Nat) : Prop := ∃ c r, tl z = c :: r ∧ low c ∧ (∀ x ∈ r, run x) ∧ r.length = i
theorem nmOf.len {z : Str} {i : Nat} (h : nmOf z i) : z.length = i + 1 := by
  obtain ⟨c, r, e, _, _, l⟩ := h
  rw [tl_len, e, List.length_cons, l]
theorem nmOf.snoc {z : Str} {i c : Nat} (h : nmOf z i) (hc : run c) : nmOf (z ++ ⟨#[c]⟩) (i + 1) := by
  obtain ⟨d, r, e, h1, h2, l⟩ := h
  refine ⟨d, r ++ [c], by rw [tl_app, e]; rfl, h1, fun x hx => ?_, by simp [l]⟩
  rcases List.mem_append.mp hx with z | z
  · exact h2 x z
  · rw [List.mem_singleton.mp z]; exact hc
theorem five {w : PyData} {v : Int} (h0 : 0 ≤ v) (h1 : v < 12) (h : w ∈ ([.int 0, .int 0, .int 1, .int 2, .int v] : List PyData)) : ∃ n : Int, w = .int n ∧ 0 ≤ n ∧ n ≤ 11 := by
  simp only [List.mem_cons, List.mem_nil_iff, or_false] at h
  rcases h with rfl | rfl | rfl | rfl | rfl <;> exact ⟨_, rfl, by omega, by omega⟩
theorem log_small {n : Int} (h0 : 0 ≤ n) (h : n < 20000) : n.natAbs.log2 < 1920 := by
  by_cases e : n.natAbs = 0
  · rw [e]; decide
  · exact Nat.lt_of_lt_of_le ((Nat.log2_lt e).mpr (show n.natAbs < 2 ^ 15 by omega)) (by decide)
theorem rd__law_name : ∀ as κ R E', F__law_name as κ R E' → a__law_name K (endsA K κ.length R) (startA N__law_name as) κ := by
  rintro as κ R E' ⟨s, tk, rfl, rfl, hs, htk, h⟩
  have fin : ∀ s z, isSrc s → isName z → z ∉ tk → (endsA K [s].length R).rt (.d (.str z)) [s] := fun s z h1 h2 h3 => ⟨_, _, GhR.refl (Nat.le_refl _), h _ _ h1 h2 h3⟩
  refine pick_w hs (by decide) (by decide) fun v s1 hs1 h0 h1 => ?_
  have la : (tl alnum).length = 36 := by rw [← tl_len]; exact alnum_len
  obtain ⟨c, hc, hm, hg⟩ := at_mem (xs := tl alnum) h0 (by omega)
  refine ⟨c, al_sl, hc, ?_⟩
  have hc1 := alnum_low v.toNat (by omega) c hg
  refine pick_w hs1 (by decide) (by decide) fun v2 s2 hs2 h20 h21 => ⟨(show 5 ≤ sizeLine by decide), ?_⟩
  refine pick_w hs2 (by decide) (by decide) fun v3 s3 hs3 h30 h31 => ?_
  obtain ⟨w, hw, hwm, _⟩ := at_mem (xs := ([.int 0, .int 0, .int 1, .int 2, .int v2] : List PyData)) h30 h31
  obtain ⟨n, rfl, hn0, hn1⟩ := five h20 h21 hwm
  refine ⟨_, hw, by omega, by omega, ?_⟩
  refine for_r (fun i δ κ => ∃ z k s, δ = [some (.c 0), some (.d (.list (tk.map .str))), some (.d (.str alnum)), some (.d (.str z)), k, none, none] ∧ κ = [s] ∧ isSrc s ∧ nmOf z i)
    ⟨_, _, s3, rfl, rfl, hs3, c, [], rfl, hc1, fun x hx => (by cases hx), rfl⟩ ?_ ?_
  · rintro δ κ ⟨z, k, s, rfl, rfl, hs, hz⟩ _
    refine ⟨rfl, Ab.flat_strs _, bsel_or (d := id (inD (.str z) (wordsL.map .str))) (fun ht => ?_) (fun ht => ?_) fun q => ⟨(show 6 ≤ sizeLine by decide), rfl, rfl, q⟩⟩
    · -- a spare name
      have ltk : (tk.map PyData.str).length = tk.length := List.length_map ..
      refine ⟨by omega, by omega, lc_r (fun i acc κ' => κ' = [s] ∧ acc = (List.range i).map fun i => .str (spare i)) ⟨rfl, rfl⟩ ?_ ?_⟩
      · rintro acc κ' ⟨rfl, rfl⟩
        rw [ltk]
        have e : ((tk.length : Int) + 1).toNat = tk.length + 1 := by omega
        rw [e]
        refine lc_d (fun i acc κ' => κ' = [s] ∧ ∃ l : List Str, acc = l.map .str ∧ l = (((List.range (tk.length + 1)).map spare).take i).filter fun x => decide (x ∉ tk)) ⟨rfl, [], rfl, rfl⟩ ?_ ?_
        · rintro acc κ' ⟨rfl, l, rfl, hl⟩
          rw [List.length_map, List.length_range, List.take_of_length_le (by simp)] at hl
          obtain ⟨i, hi, hf⟩ := spare_free tk
          have hmem : spare i ∈ l := by
            rw [hl, List.mem_filter]
            exact ⟨List.mem_map.mpr ⟨i, List.mem_range.mpr hi, rfl⟩, decide_eq_true hf⟩
          cases l with
          | nil => cases hmem
          | cons z0 l =>
            have hz0 : z0 ∈ ((List.range (tk.length + 1)).map spare).filter fun x => decide (x ∉ tk) := by rw [← hl]; exact List.mem_cons_self ..
            obtain ⟨y1, y2⟩ := List.mem_filter.mp hz0
            obtain ⟨j, hj, rfl⟩ := List.mem_map.mp y1
            rw [List.mem_range] at hj
            exact ⟨_, at_nat (j := 0) rfl, fin _ _ hs (spare_name (by omega)) (of_decide_eq_true y2)⟩
        · rintro i x acc κ' hx ⟨rfl, l, rfl, hl⟩
          rw [List.getElem?_map] at hx
          obtain ⟨j, hj, rfl⟩ := Option.map_eq_some_iff.mp hx
          have hlen : l.length ≤ 10001 := by
            rw [hl]
            refine Nat.le_trans (List.length_filter_le ..) (Nat.le_trans (List.length_take_le' ..) ?_)
            simp; omega
          have ht : ((List.range (tk.length + 1)).map spare)[i]? = some (spare j) := by rw [List.getElem?_map, hj]; rfl
          refine ⟨rfl, Ab.flat_strs _, bsel_i (fun hb => ⟨_, rfl, ?_, rfl, l ++ [spare j], by simp, ?_⟩) fun hb => ⟨rfl, l, rfl, ?_⟩⟩
          · rw [List.length_map]; exact Nat.lt_of_le_of_lt hlen (by decide)
          · rw [inD_str] at hb
            rw [List.take_add_one, ht, List.filter_append, ← hl]
            congr 1
            show [spare j] = List.filter _ [spare j]
            rw [List.filter_cons_of_pos (by simpa using hb)]; rfl
          · rw [inD_str] at hb
            rw [List.take_add_one, ht, List.filter_append, ← hl]
            show l = l ++ List.filter _ [spare j]
            rw [List.filter_cons_of_neg (by simpa using hb)]; simp
      · rintro i acc κ' hi ⟨rfl, rfl⟩
        have hi' : i < 10001 := by omega
        have e0 : (0 : Int) + (i : Int) = (i : Int) := Int.zero_add _
        rw [e0]
        refine ⟨log_small (by omega) (by omega), ?_, _, rfl, ?_, rfl, ?_⟩
        · have l1 : (Str.ofString (toString ((i : Nat) : Int))).length ≤ 6 := by
            rw [tl_len]
            show (TL.tl _).length ≤ 6
            rw [TL.tl_num]
            exact TL.numL_len (by decide) (by omega)
          have l2 : ("q" : Str).length = 1 := by decide +kernel
          exact sl100 (by omega)
        · rw [List.length_map, List.length_range]; exact Nat.lt_of_lt_of_le hi' (by decide)
        · rw [List.range_succ, List.map_append]; rfl
    · -- the name itself
      rw [Bool.or_eq_false_iff] at ht
      have h1 := ht.1
      have h2 := ht.2
      have h1' : inD (.str z) (tk.map .str) = false := h1
      have h2' : inD (.str z) (wordsL.map .str) = false := h2
      rw [inD_str] at h1' h2'
      obtain ⟨c, r, e1, e2, e3, e4⟩ := hz
      exact fin _ _ hs ⟨⟨c, r, e1, e2, e3, by omega⟩, of_decide_eq_false h2'⟩ (of_decide_eq_false h1')
  · rintro i δ κ hi ⟨z, k, s, rfl, rfl, hs, hz⟩ _
    refine pick_w hs (by decide) (by decide) fun v s1 hs1 h0 h1 => ?_
    obtain ⟨c, hc, hm, hg⟩ := at_mem (xs := tl alnum) h0 (by omega)
    refine ⟨c, al_sl, hc, ?_, _, _, s1, rfl, rfl, hs1, hz.snoc (alnum_mem.mp hm)⟩
    rw [hz.len]
    show i + 1 + 1 ≤ sizeLine
    exact sl100 (by omega)

/-! ### words spread over a text -/
def runFirst (w : Str) : Prop := ∃ c r, tl w = c :: r ∧ run c
def runLast (w : Str) : Prop := ∃ r c, tl w = r ++ [c] ∧ run c
abbrev Piece := Str × Str
def txt (ps : List Piece) : List Nat := ps.flatMap fun p => tl p.1 ++ tl p.2
/-- where the words stand -/
def plc (n : Nat) : List Piece → List Int
  | [] => []
  | p :: ps => ((n + p.1.length : Nat) : Int) :: plc (n + p.1.length + p.2.length) ps
theorem txt_snoc (ps : List Piece) (p : Piece) : txt (ps ++ [p]) = txt ps ++ (tl p.1 ++ tl p.2) := by
  unfold txt; rw [List.flatMap_append]; simp
theorem txt_len : ∀ ps : List Piece, (txt ps).length = (ps.map fun p => p.1.length + p.2.length).sum
  | [] => rfl
  | p :: ps => by
    have ih := txt_len ps
    unfold txt at ih ⊢
    rw [List.flatMap_cons, List.length_append, ih, List.length_append, ← tl_len, ← tl_len]; rfl
theorem plc_snoc : ∀ (n : Nat) (ps : List Piece) (p : Piece), plc n (ps ++ [p]) = plc n ps ++ [((n + (txt ps).length + p.1.length : Nat) : Int)]
  | n, [], p => rfl
  | n, q :: ps, p => by
    show _ :: plc _ (ps ++ [p]) = _ :: (plc _ ps ++ _)
    rw [plc_snoc _ ps p]
    congr 2
    have : (txt (q :: ps)).length = q.1.length + q.2.length + (txt ps).length := by
      unfold txt; rw [List.flatMap_cons, List.length_append, List.length_append, ← tl_len, ← tl_len]
    rw [this]
    congr 2; omega
def Sep (ps : List Piece) : Prop := ∀ (k : Nat) (p q : Piece), ps[k]? = some p → ps[k + 1]? = some q → runLast p.2 → runFirst q.2 → q.1 ≠ ""
structure Spread (ws : List Str) (text : Str) (places : List Int) : Prop where
  ex : ∃ (b0 bl : Str) (ps : List Piece), ps.map (·.2) = ws ∧ isBlank b0 ∧ isBlank bl ∧ (∀ p ∈ ps, isBlank p.1) ∧ Sep ps ∧ tl text = tl b0 ++ txt ps ++ tl bl ∧ places = plc b0.length ps
def F__law_spread : FSp := fun as κ R _ => ∃ (s : Cell) (ws : List Str), as = [.c 0, .d (.list (ws.map .str))] ∧ κ = [s] ∧ isSrc s ∧ ws.length ≤ 50000 ∧ (∀ w ∈ ws, w.length ≤ 100 ∧ w ≠ "") ∧
  ∀ text places s', isSrc s' → Spread ws text places → text.length ≤ 102 * ws.length + 4 → R (.d (.tuple [.str text, .list (places.map .int)])) [s']
abbrev N__law_spread : List Str := ["source", "words", "signs", "text", "places", "k"]
def a__law_spread (K : PySem.W.Frag) : AS :=
  (aSeq (aSet 2 (aC (.d (.str "abcdefghijklmnopqrstuvwxyz0123456789")))) (aSeq (aSet 3 (aCall F__law_blank (fun _ _ => False) (aCons (aVar 0) (aCons (aC (.d (.bool false))) aNil)))) (aSeq (aSet 4 (aLst aNil)) (aSeq (aFor (aRng1 (aCons (aCB aLen (aCons (aVar 1) aNil)) aNil)) (aName 5) (aSeq (aSet 3 (aOp aAdd (aVar 3) (aCall F__law_blank (fun _ _ => False) (aCons (aVar 0) (aCons (aAndV (aOp aGt (aVar 5) (aC (.d (.int 0)))) (aAndV (aOp (aIn id) (aOp aIx (aOp aIx (aVar 1) (aVar 5)) (aC (.d (.int 0)))) (aVar 2)) (aOp (aIn id) (aOp aIx (aOp aIx (aVar 1) (aOp aSub (aVar 5) (aC (.d (.int 1))))) (aUn aNeg (aC (.d (.int 1))))) (aVar 2)))) aNil))))) (aSeq (aDrop (aBM "list" aAppend (aVar 4) (aCons (aCB aLen (aCons (aVar 3) aNil)) aNil))) (aSet 3 (aOp aAdd (aVar 3) (aOp aIx (aVar 1) (aVar 5))))))) (aGh K (aRet (aTup (aCons (aOp aAdd (aVar 3) (aCall F__law_blank (fun _ _ => False) (aCons (aVar 0) (aCons (aC (.d (.bool false))) aNil)))) (aCons (aVar 4) aNil)))))))))
theorem len__law_spread : ∀ as κ R E', F__law_spread as κ R E' → as.length = (["source", "words"] : List Str).length := by
  rintro as κ R E' ⟨s, m, rfl, _⟩; rfl
theorem blank_w {s : Cell} {κr : AK} {b : Bool} {E : AX → AK → Prop} {R : AR} (hs : isSrc s) (k : ∀ z s', isSrc s' → isBlank z → (b = true → z ≠ "") → R (.d (.str z)) (s' :: κr)) : callW F__law_blank E [.c 0, .d (.bool b)] (s :: κr) R :=
  callW_i ⟨[0], _, _, by decide, rfl, sel0 hs, s, b, rfl, rfl, hs, fun z s' hs' hb hn => ⟨Nat.le_refl _, cl1 hs', rfl, k z s' hs' hb hn⟩⟩
theorem tl_empty : tl "" = [] := by decide +kernel
theorem ne_tl {w : Str} (h : w ≠ "") : tl w ≠ [] := fun e => h (tl_inj (e.trans tl_empty.symm))
theorem ne_first {w : Str} (h : w ≠ "") : ∃ c r, tl w = c :: r := by
  cases e : tl w with
  | nil => exact absurd e (ne_tl h)
  | cons c r => exact ⟨c, r, rfl⟩
theorem ne_last {w : Str} (h : w ≠ "") : ∃ r c, tl w = r ++ [c] := ⟨_, _, (List.dropLast_concat_getLast (ne_tl h)).symm⟩
theorem txt_le : ∀ {ps : List Piece}, (∀ p ∈ ps, isBlank p.1 ∧ p.2.length ≤ 100) → (txt ps).length ≤ 102 * ps.length
  | [], _ => Nat.le_refl _
  | p :: ps, h => by
    have ih := txt_le (ps := ps) fun q hq => h q (List.mem_cons_of_mem _ hq)
    obtain ⟨h1, h2⟩ := h p (List.mem_cons_self ..)
    have := h1.2
    unfold txt at ih ⊢
    rw [List.flatMap_cons, List.length_append, List.length_append, ← tl_len, ← tl_len, List.length_cons]
    omega
theorem andV_i {f g : AE} {δ : AD} {κ : AK} {R : AR} (a b : Bool) (hf : ∀ R', R' (.d (.bool a)) κ → f δ κ R') (hg : a = true → ∀ R', R' (.d (.bool b)) κ → g δ κ R') (h : R (.d (.bool (a && b))) κ) : aAndV f g δ κ R := by
  refine hf _ ?_
  cases a with
  | true => exact hg rfl _ h
  | false => exact h
theorem rd__law_spread : ∀ as κ R E', F__law_spread as κ R E' → a__law_spread K (endsA K κ.length R) (startA N__law_spread as) κ := by
  rintro as κ R E' ⟨s, ws, rfl, rfl, hs, hlen, hw, h⟩
  refine blank_w hs fun b0 s0 hs0 hb0 _ => ⟨Nat.zero_le _, ?_⟩
  have lw : (ws.map PyData.str).length = ws.length := List.length_map ..
  refine ⟨by omega, by omega, ?_⟩
  refine for_r (fun i δ κ => ∃ (text : Str) (s : Cell) (ps : List Piece) (k : Option AV), δ = [some (.c 0), some (.d (.list (ws.map .str))), some (.d (.str alnum)), some (.d (.str text)), some (.c 1), k] ∧
      κ = [s, .ld ((plc b0.length ps).map .int)] ∧ isSrc s ∧ ps.map (·.2) = ws.take i ∧ (∀ p ∈ ps, isBlank p.1) ∧ Sep ps ∧ tl text = tl b0 ++ txt ps)
    ⟨b0, s0, [], none, rfl, rfl, hs0, rfl, fun p hp => (by cases hp), fun k p q h => (by simp at h), by simp [txt]⟩ ?_ ?_
  · rintro δ κ ⟨text, s, ps, k, rfl, rfl, hs, hps, hb, hsep, ht⟩ _
    have e : ((ws.map PyData.str).length : Int).toNat = ws.length := by omega
    rw [e, List.take_length] at hps
    refine ⟨_, _, GhS.freeze (show 1 ≤ 2 by decide) 1 _ rfl, ?_⟩
    refine blank_w hs.fz fun bl s2 hs2 hbl _ => ?_
    have pl : ps.length = ws.length := by rw [← hps, List.length_map]
    have t1 : text.length = b0.length + (txt ps).length := by rw [tl_len, ht, List.length_append, ← tl_len]
    have t2 : (txt ps).length ≤ 102 * ps.length := txt_le fun p hp => ⟨hb p hp, (hw p.2 (by rw [← hps]; exact List.mem_map.mpr ⟨p, hp, rfl⟩)).1⟩
    have h1 := hb0.2
    have h2 := hbl.2
    refine ⟨Nat.le_trans (show text.length + bl.length ≤ 6000000 by omega) (by decide), (show 2 ≤ sizeLine by decide), _, _, GhR.take 1 (Nat.le_refl _) (show 1 ≤ 2 by decide) (cl1_ok hs2) rfl, h _ _ _ hs2 ⟨b0, bl, ps, hps, hb0, hbl, hb, hsep, by rw [tl_app, ht], rfl⟩ ?_⟩
    show (text ++ bl).length ≤ _
    rw [tl_len, tl_app, List.length_append, ← tl_len, ← tl_len]; omega
  · rintro i δ κ hi ⟨text, s, ps, k, rfl, rfl, hs, hps, hb, hsep, ht⟩ _
    have hi' : i < ws.length := by omega
    have ei : (0 : Int) + (i : Int) = (i : Int) := Int.zero_add _
    rw [ei]
    have hwi : (ws.map PyData.str)[i]? = some (.str ws[i]) := by rw [List.getElem?_map, List.getElem?_eq_getElem hi']; rfl
    obtain ⟨hl1, hne⟩ := hw _ (List.getElem_mem hi')
    obtain ⟨c, r, ec⟩ := ne_first hne
    have pl : ps.length = i := by
      have := congrArg List.length hps
      rw [List.length_map, List.length_take] at this; omega
    have t1 : text.length = b0.length + (txt ps).length := by rw [tl_len, ht, List.length_append, ← tl_len]
    have t2 : (txt ps).length ≤ 102 * ps.length := txt_le fun p hp => ⟨hb p hp, (hw p.2 (List.mem_of_mem_take (by rw [← hps]; exact List.mem_map.mpr ⟨p, hp, rfl⟩))).1⟩
    have h1 := hb0.2
    have hc0 : atI (tl ws[i]) 0 = some c := at_nat (j := 0) (by rw [ec]; rfl)
    -- the blank's condition
    have cond : ∃ least : Bool, (∀ p, ps[i - 1]? = some p → 0 < i → runLast p.2 → runFirst ws[i] → least = true) ∧ ∀ R' : AR, R' (.d (.bool least)) [s, .ld ((plc b0.length ps).map .int)] →
        aAndV (aOp aGt (aVar 5) (aC (.d (.int 0)))) (aAndV (aOp (aIn id) (aOp aIx (aOp aIx (aVar 1) (aVar 5)) (aC (.d (.int 0)))) (aVar 2)) (aOp (aIn id) (aOp aIx (aOp aIx (aVar 1) (aOp aSub (aVar 5) (aC (.d (.int 1))))) (aUn aNeg (aC (.d (.int 1))))) (aVar 2)))
          [some (.c 0), some (.d (.list (ws.map .str))), some (.d (.str alnum)), some (.d (.str text)), some (.c 1), some (.d (.int i))] [s, .ld ((plc b0.length ps).map .int)] R' := by
      by_cases h0 : i = 0
      · refine ⟨false, fun _ _ z => absurd h0 (by omega), fun R' h => andV_i false true (fun R2 h2 => ?_) (fun z => by cases z) h⟩
        show R2 (.d (.bool (decide ((0 : Int) < (i : Int))))) _
        rw [decide_eq_false (by omega)]; exact h2
      · have hj : i - 1 < ws.length := by omega
        obtain ⟨hlj, hnj⟩ := hw _ (List.getElem_mem hj)
        obtain ⟨r', c', ec'⟩ := ne_last hnj
        have hwj : (ws.map PyData.str)[i - 1]? = some (.str ws[i - 1]) := by rw [List.getElem?_map, List.getElem?_eq_getElem hj]; rfl
        refine ⟨true && (decide (c ∈ tl alnum) && decide (c' ∈ tl alnum)), fun p hp _ hl hf => ?_, fun R' h => andV_i true _ (fun R2 h2 => ?_) (fun _ R2 h2 => andV_i _ _ (fun R3 h3 => ?_) (fun _ R3 h3 => ?_) h2) h⟩
        · have e2 : p.2 = ws[i - 1] := by
            have := congrArg (fun l => l[i - 1]?) hps
            simp only [List.getElem?_map, hp, List.getElem?_take_of_lt (show i - 1 < i by omega), List.getElem?_eq_getElem hj] at this
            exact Option.some.inj this
          rw [e2] at hl
          obtain ⟨r2, c2, y1, y2⟩ := hl
          obtain ⟨c3, r3, y3, y4⟩ := hf
          rw [ec] at y3; cases y3
          rw [ec'] at y1
          obtain ⟨_, y5⟩ := List.append_inj' y1 rfl
          cases y5
          rw [Bool.true_and, Bool.and_eq_true, decide_eq_true_eq, decide_eq_true_eq]
          exact ⟨alnum_mem.mpr y4, alnum_mem.mpr y2⟩
        · show R2 (.d (.bool (decide ((0 : Int) < (i : Int))))) _
          rw [decide_eq_true (by omega)]; exact h2
        · exact ⟨_, at_nat hwi, c, sl100 (by omega), hc0, c, rfl, h3⟩
        · have ej : ((i : Int) - 1) = ((i - 1 : Nat) : Int) := by omega
          have hjv : atI (ws.map PyData.str) ((i : Int) - 1) = some (.str ws[i - 1]) := by rw [ej]; exact at_nat hwj
          refine ⟨_, hjv, c', sl100 (by omega), (by rw [show (ws[i - 1]).cps.toList = r' ++ [c'] from ec']; exact atI_last _ _), c', rfl, h3⟩
    obtain ⟨least, hleast, hcond⟩ := cond
    refine hcond _ (blank_w hs fun bl s2 hs2 hbl hn => ?_)
    have h2 := hbl.2
    refine ⟨Nat.le_trans (show text.length + bl.length ≤ 6000000 by omega) (by decide), ?_⟩
    have ltb : (text ++ bl).length = text.length + bl.length := by rw [tl_len, tl_app, List.length_append, ← tl_len, ← tl_len]
    refine ⟨rfl, Nat.le_trans (show (text ++ bl).length ≤ 6000000 by omega) (by decide), ?_, _, at_nat hwi, Nat.le_trans (show (text ++ bl).length + (ws[i]).length ≤ 6000000 by omega) (by decide), text ++ bl ++ ws[i], s2, ps ++ [(bl, ws[i])], _, rfl, ?_, hs2, ?_, ?_, ?_, ?_⟩
    · have lp : (plc b0.length ps).length = ps.length := by
        have : ∀ (n : Nat) (l : List Piece), (plc n l).length = l.length := by
          intro n l
          induction l generalizing n with
          | nil => rfl
          | cons p l ih => show (plc _ l).length + 1 = _; rw [ih]; rfl
        exact this _ _
      rw [List.length_map, lp]
      exact Nat.lt_of_lt_of_le (show ps.length < 60000 by omega) (by decide)
    · rw [plc_snoc, List.map_append]
      show [s2, Cell.ld (_ ++ [PyData.int ((text ++ bl).length : Nat)])] = _
      rw [ltb, t1]; rfl
    · rw [List.map_append, hps]
      show _ ++ [ws[i]] = _
      rw [List.take_add_one, List.getElem?_eq_getElem hi']; rfl
    · intro p hp
      rcases List.mem_append.mp hp with z | z
      · exact hb p z
      · rw [List.mem_singleton.mp z]; exact hbl
    · intro k p q hk hk1 hl hf
      by_cases hlt : k + 1 < ps.length
      · rw [List.getElem?_append_left (by omega)] at hk hk1
        exact hsep k p q hk hk1 hl hf
      · have hb' := (List.getElem?_eq_some_iff.mp hk1).1
        rw [List.length_append] at hb'
        have hb2 : ([(bl, ws[i])] : List Piece).length = 1 := rfl
        have ek : k + 1 = ps.length := by omega
        rw [List.getElem?_append_right (by omega), ek, Nat.sub_self] at hk1
        cases hk1
        rw [List.getElem?_append_left (by omega)] at hk
        have : k = i - 1 := by omega
        subst this
        exact hn (hleast p hk (by omega) hl hf)
    · rw [tl_app, tl_app, ht, txt_snoc]; simp

/-! ### the same -/
/-- data of a depth below n, lists not longer than a range may be -/
def sdep : Nat → PyData → Prop
  | 0, _ => False
  | n + 1, .list ds => ds.length < 2 ^ 62 ∧ ∀ d ∈ ds, sdep n d
  | n + 1, .tuple ds => ds.length < 2 ^ 62 ∧ ∀ d ∈ ds, sdep n d
  | _ + 1, .dict _ => False
  | _ + 1, _ => True
def F_same (n : Nat) : FSp := fun as κ R _ => ∃ d, sdep n d ∧ R (.d (.bool true)) κ ∧ ((as = [.d d, .d d] ∧ κ = []) ∨ (∃ ds, d = .list ds ∧ as = [.c 0, .d d] ∧ κ = [.ld ds]) ∨ ∃ x ds, d = .tuple [x, .list ds] ∧ as = [.c 0, .d d] ∧ κ = [.tup [.d x, .c 1], .ld ds])
def F__law_same : FSp := F_same 5
theorem sdep_mono : ∀ {n : Nat} {d : PyData}, sdep n d → sdep (n + 1) d
  | 0, _, h => h.elim
  | n + 1, .list ds, h => ⟨h.1, fun d hd => sdep_mono (h.2 d hd)⟩
  | n + 1, .tuple ds, h => ⟨h.1, fun d hd => sdep_mono (h.2 d hd)⟩
  | _ + 1, .dict _, h => h.elim
  | _ + 1, .none, _ => trivial
  | _ + 1, .bool _, _ => trivial
  | _ + 1, .int _, _ => trivial
  | _ + 1, .str _, _ => trivial
theorem len__law_same (n : Nat) : ∀ as κ R E', F_same n as κ R E' → as.length = (["actual", "due"] : List Str).length := by
  rintro as κ R E' ⟨d, _, _, ⟨rfl, _⟩ | ⟨ds, _, rfl, _⟩ | ⟨x, ds, _, rfl, _⟩⟩ <;> rfl
theorem rd0__law_same {as : List AV} {κ : AK} {R : AR} {E' : AX → AK → Prop} (h : F_same 0 as κ R E') : False := by
  obtain ⟨d, h, _⟩ := h; exact h
theorem same_w {n : Nat} {d : PyData} {κ : AK} {R : AR} {E : AX → AK → Prop} (hd : sdep n d) (h : R (.d (.bool true)) κ) : callW (F_same n) E [.d d, .d d] κ R :=
  callW_i ⟨[], _, _, .nil, rfl, rfl, d, hd, ⟨Nat.zero_le _, rfl, rfl, h⟩, .inl ⟨rfl, rfl⟩⟩
theorem tru_of {f : AE} {δ : AD} {κ : AK} {R : Bool → AK → Prop} (b : Bool) (h : f δ κ fun a κ1 => a = .d (.bool b) ∧ R b κ1) (mono : ∀ P Q : AR, (∀ a κ, P a κ → Q a κ) → f δ κ P → f δ κ Q) : aTru f δ κ R := mono _ _ (fun a κ1 ⟨e, q⟩ => by subst e; exact q) h
theorem kb_b : kitB "bool" "bool" = some true := by decide +kernel
theorem kb_i : kitB "int" "bool" = some false := by decide +kernel
theorem kb_s : kitB "str" "bool" = some false := by decide +kernel
theorem kb_l : kitB "list" "bool" = some false := by decide +kernel
theorem kb_t : kitB "tuple" "bool" = some false := by decide +kernel
theorem ki_i : kitB "int" "int" = some true := by decide +kernel
theorem ki_s : kitB "str" "int" = some false := by decide +kernel
theorem ki_l : kitB "list" "int" = some false := by decide +kernel
theorem ki_t : kitB "tuple" "int" = some false := by decide +kernel
theorem ks_s : kitB "str" "str" = some true := by decide +kernel
theorem ks_l : kitB "list" "str" = some false := by decide +kernel
theorem ks_t : kitB "tuple" "str" = some false := by decide +kernel
theorem kl_l : kitB "list" "list" = some true := by decide +kernel
theorem kl_t : kitB "tuple" "list" = some false := by decide +kernel
theorem kt_l : kitB "list" "tuple" = some false := by decide +kernel
theorem kt_t : kitB "tuple" "tuple" = some true := by decide +kernel
abbrev N__law_same : List Str := ["actual", "due", "k"]
def a__law_same (K : PySem.W.Frag) (F_self : FSp) : AS :=
  (aSeq (aIfS (aB (aOp (aIsN id) (aVar 1) (aC (.d .none)))) (aRet (aOp (aIsN id) (aVar 0) (aC (.d .none)))) aNext) (aSeq (aIfS (aTru (aCB aIsi (aCons (aVar 1) (aCons (aC (.r (.ty "bool"))) aNil)))) (aRet (aAndV (aCB aIsi (aCons (aVar 0) (aCons (aC (.r (.ty "bool"))) aNil))) (aOp aEq (aVar 0) (aVar 1)))) aNext) (aSeq (aIfS (aTru (aCB aIsi (aCons (aVar 1) (aCons (aC (.r (.ty "int"))) aNil)))) (aRet (aAndV (aCB aIsi (aCons (aVar 0) (aCons (aC (.r (.ty "int"))) aNil))) (aAndV (aNotV (aCB aIsi (aCons (aVar 0) (aCons (aC (.r (.ty "bool"))) aNil)))) (aOp aEq (aVar 0) (aVar 1))))) aNext) (aSeq (aIfS (aTru (aCB aIsi (aCons (aVar 1) (aCons (aC (.r (.ty "str"))) aNil)))) (aRet (aAndV (aCB aIsi (aCons (aVar 0) (aCons (aC (.r (.ty "str"))) aNil))) (aOp aEq (aVar 0) (aVar 1)))) aNext) (aSeq (aIfS (aOr (aB (aOp aNe (aCB aIsi (aCons (aVar 1) (aCons (aC (.r (.ty "list"))) aNil))) (aCB aIsi (aCons (aVar 0) (aCons (aC (.r (.ty "list"))) aNil))))) (aB (aOp aNe (aCB aIsi (aCons (aVar 1) (aCons (aC (.r (.ty "tuple"))) aNil))) (aCB aIsi (aCons (aVar 0) (aCons (aC (.r (.ty "tuple"))) aNil)))))) (aRet (aC (.d (.bool false)))) aNext) (aSeq (aIfS (aB (aOp aNe (aCB aLen (aCons (aVar 0) aNil)) (aCB aLen (aCons (aVar 1) aNil)))) (aRet (aC (.d (.bool false)))) aNext) (aSeq (aFor (aRng1 (aCons (aCB aLen (aCons (aVar 1) aNil)) aNil)) (aName 2) (aIfS (aNot (aTru (aCall F_self (fun _ _ => False) (aCons (aOp aIx (aVar 0) (aVar 2)) (aCons (aOp aIx (aVar 1) (aVar 2)) aNil))))) (aRet (aC (.d (.bool false)))) aNext)) (aRet (aC (.d (.bool true)))))))))))
theorem rd__law_same (n : Nat) : ∀ as κ R E', F_same (n + 1) as κ R E' → a__law_same K (F_same n) (endsA K κ.length R) (startA N__law_same as) κ := by
  rintro as κ R E' ⟨d, hd, hR, hv⟩
  have fin : (endsA K κ.length R).rt (.d (.bool true)) κ := ⟨_, _, GhR.refl (Nat.le_refl _), hR⟩
  have eqt : ∀ b : Bool, b = true → (endsA K κ.length R).rt (.d (.bool b)) κ := fun b e => by subst e; exact fin
  -- the items, one by one
  have items : ∀ (a b : AV) (ds : List PyData), ds.length < 2 ^ 62 → (∀ x ∈ ds, sdep n x) → ((a = .d (.list ds) ∧ b = .d (.list ds)) ∨ (a = .d (.tuple ds) ∧ b = .d (.tuple ds)) ∨ (a = .c 0 ∧ b = .d (.list ds) ∧ κ = [.ld ds])) →
      ForW (itR 0 ds.length) (aName 2) (aIfS (aNot (aTru (aCall (F_same n) (fun _ _ => False) (aCons (aOp aIx (aVar 0) (aVar 2)) (aCons (aOp aIx (aVar 1) (aVar 2)) aNil))))) (aRet (aC (.d (.bool false)))) aNext)
        { n := κ.length, nx := aRet (aC (.d (.bool true))) (endsA K κ.length R), rt := (endsA K κ.length R).rt, bk := (endsA K κ.length R).bk, ct := (endsA K κ.length R).ct } κ.length [some a, some b, none] κ := by
    intro a b ds hl hs hab
    refine for_r (fun i δ κ' => ∃ k, δ = [some a, some b, k] ∧ κ' = κ) ⟨none, rfl, rfl⟩ ?_ ?_
    · rintro δ κ' ⟨k, rfl, rfl⟩ _
      exact fin
    · rintro i δ κ' hi ⟨k, rfl, e⟩ _
      have e0 : (0 : Int) + (i : Int) = (i : Int) := Int.zero_add _
      have hx := List.getElem?_eq_getElem hi
      have hsi := hs _ (List.getElem_mem hi)
      rw [e0]
      rcases hab with ⟨rfl, rfl⟩ | ⟨rfl, rfl⟩ | ⟨rfl, rfl, rfl⟩
      · exact ⟨_, at_nat hx, _, at_nat hx, same_w hsi ⟨_, rfl, e⟩⟩
      · exact ⟨_, at_nat hx, _, at_nat hx, same_w hsi ⟨_, rfl, e⟩⟩
      · subst e; exact ⟨_, at_nat hx, _, at_nat hx, same_w hsi ⟨_, rfl, rfl⟩⟩
  rcases hv with ⟨rfl, rfl⟩ | ⟨ds, rfl, rfl, rfl⟩ | ⟨x, ds, rfl, rfl, rfl⟩
  · cases d with
    | none => exact fin
    | bool b => exact ⟨true, kb_b, true, kb_b, eqt _ (decide_eq_true rfl)⟩
    | int i => exact ⟨false, kb_i, true, ki_i, true, ki_i, false, kb_i, eqt _ (decide_eq_true rfl)⟩
    | str z => exact ⟨false, kb_s, false, ki_s, true, ks_s, true, ks_s, eqt _ (decide_eq_true rfl)⟩
    | list ds =>
      refine ⟨false, kb_l, false, ki_l, false, ks_l, true, kl_l, true, kl_l, false, kt_l, false, kt_l, bsel_i (fun h => by simp at h) fun _ => ?_⟩
      obtain ⟨hl, hs⟩ := hd
      refine ⟨by omega, by omega, ?_⟩
      exact items _ _ ds hl hs (.inl ⟨rfl, rfl⟩)
    | tuple ds =>
      refine ⟨false, kb_t, false, ki_t, false, ks_t, false, kl_t, false, kl_t, true, kt_t, true, kt_t, bsel_i (fun h => by simp at h) fun _ => ?_⟩
      obtain ⟨hl, hs⟩ := hd
      refine ⟨by omega, by omega, ?_⟩
      exact items _ _ ds hl hs (.inr (.inl ⟨rfl, rfl⟩))
    | dict _ => exact hd.elim
  · refine ⟨false, kb_l, false, ki_l, false, ks_l, true, kl_l, true, kl_l, false, kt_l, false, kt_l, bsel_i (fun h => by simp at h) fun _ => ?_⟩
    obtain ⟨hl, hs⟩ := hd
    refine ⟨by omega, by omega, ?_⟩
    exact items _ _ ds hl hs (.inr (.inr ⟨rfl, rfl, rfl⟩))
  · refine ⟨false, kb_t, false, ki_t, false, ks_t, false, kl_t, false, kl_t, true, kt_t, true, kt_t, ?_⟩
    obtain ⟨hl, hs⟩ := hd
    refine ⟨(show -(2 ^ 62) ≤ (2 : Int) by decide), (show (2 : Int) < 2 ^ 62 by decide), ?_⟩
    refine for_r (fun i δ κ' => ∃ k, δ = [some (.c 0), some (.d (.tuple [x, .list ds])), k] ∧ κ' = [.tup [.d x, .c 1], .ld ds]) ⟨none, rfl, rfl⟩ ?_ ?_
    · rintro δ κ' ⟨k, rfl, rfl⟩ _
      exact fin
    · rintro i δ κ' hi ⟨k, rfl, rfl⟩ _
      have hi : i < 2 := hi
      have hx := hs x (by simp)
      have hds := hs (.list ds) (by simp)
      have e : i = 0 ∨ i = 1 := by omega
      rcases e with rfl | rfl
      · exact ⟨_, at_nat (j := 0) rfl, _, at_nat (j := 0) rfl, same_w hx ⟨_, rfl, rfl⟩⟩
      · exact ⟨_, at_nat (j := 1) rfl, _, at_nat (j := 1) rfl, callW_i ⟨[1], _, _, by decide, rfl, rfl, .list ds, hds, ⟨Nat.le_refl _, rfl, rfl, ⟨_, rfl, rfl⟩⟩, .inr (.inl ⟨ds, rfl, rfl, rfl⟩)⟩⟩
theorem imp__law_same : ∀ as κ R E', F__law_same as κ R E' → F_same 5 as κ R E' := fun _ _ _ _ h => h
theorem source_w {ns : List Int} {κ : AK} {R : AR} {E : AX → AK → Prop} (h : ∀ s, isSrc s → R (.c κ.length) (κ ++ [s])) : callW F__law_source E [.d (.list (ns.map .int))] κ R :=
  callW_i ⟨[], _, _, .nil, rfl, rfl, ns, rfl, rfl, fun s hs => ⟨Nat.zero_le _, cl1 hs, List.all_eq_true.mpr fun c hc => (by have hc : c ∈ [s] := hc; rw [List.mem_singleton.mp hc]; exact hs.cl.2), h s hs⟩⟩
theorem name_w {s : Cell} {κr : AK} {tk : List Str} {E : AX → AK → Prop} {R : AR} (hs : isSrc s) (ht : tk.length ≤ 10000) (k : ∀ z s', isSrc s' → isName z → z ∉ tk → R (.d (.str z)) (s' :: κr)) : callW F__law_name E [.c 0, .d (.list (tk.map .str))] (s :: κr) R :=
  callW_i ⟨[0], _, _, by decide, rfl, sel0 hs, s, tk, rfl, rfl, hs, ht, fun z s' hs' hb hn => ⟨Nat.le_refl _, cl1 hs', rfl, k z s' hs' hb hn⟩⟩
theorem spread_w {s : Cell} {κr : AK} {ws : List Str} {E : AX → AK → Prop} {R : AR} (hs : isSrc s) (h1 : ws.length ≤ 50000) (h2 : ∀ w ∈ ws, w.length ≤ 100 ∧ w ≠ "")
    (k : ∀ text places s', isSrc s' → Spread ws text places → text.length ≤ 102 * ws.length + 4 → R (.d (.tuple [.str text, .list (places.map .int)])) (s' :: κr)) : callW F__law_spread E [.c 0, .d (.list (ws.map .str))] (s :: κr) R :=
  callW_i ⟨[0], _, _, by decide, rfl, sel0 hs, s, ws, rfl, rfl, hs, h1, h2, fun t p s' hs' hb hn => ⟨Nat.le_refl _, cl1 hs', rfl, k t p s' hs' hb hn⟩⟩
end Com
set_option Elab.async false
set_option linter.all false
set_option maxRecDepth 100000
set_option maxHeartbeats 4000000
/-! Ab8: lists one behind the other, pop, insert, tuple(x), join, f-strings, dicts -/
namespace Ab
open PySem L2
variable {K : Frg} {B B' B2 H H' H2 : Hp} {ρ ρ' ρ2 : List Addr} {κ κ' : AK} {δ : AD} {σ : L2.St} {p : Addr} {k : Nat} {v x y z : V} {a b c : AV}
variable {X : Cx} {e e2 : Expr} {t u : TE} {f f2 : AE} {pos : Pos}

/-! ### items -/
/-- the items of a list of data -/
def ldOf (κ : AK) : AV → Option (List PyData)
  | .d (.list xs) => some xs
  | .c k => match κ[k]? with
    | some (.ld xs) => some xs
    | _ => none
  | _ => none
theorem ldOf_ok (g : G K B ρ κ H) (r : Rep K B ρ a v) {xs : List PyData} (h : ldOf κ a = some xs) : ∃ p vs, v = .ref p ∧ SqL K H p vs ∧ DpAll K B vs xs := by
  unfold ldOf at h
  split at h
  · cases h; exact of_listG g r
  · obtain ⟨p, hp, rfl⟩ := r
    split at h
    · rename_i ys ek
      cases h
      obtain ⟨p', hp', _, vs, d1, eH⟩ := g.cell ek
      rw [hp] at hp'; cases hp'
      exact ⟨p, vs, rfl, .inl (.inl eH), d1⟩
    · cases h
  · cases h
def rCatS (K : PySem.W.Frag) : R2 := fun x y H Q => ∃ l b xs zs, x = .ref l ∧ y = .ref b ∧ SqL K H l xs ∧ SqL K H b zs ∧ xs.length + zs.length ≤ sizeLine ∧ ∀ p, H p = none → Q (.ref p) (upd H p (.lst (xs ++ zs)))
theorem op_catS : OpR X (binaryOp .Add) (rCatS X.K) := by
  intro pins s σ H x y v u Q I rx ry h
  obtain ⟨l, b, xs, zs, rfl, rfl, hx, hy, hz, q⟩ := h
  cases rx
  cases ry
  obtain ⟨its, r1, ⟨⟨cls, dd, data, sl⟩, n, ho, hc, hdn, hd⟩, _⟩ := I.list hx
  obtain ⟨its2, r2, ⟨⟨cls2, dd2, data2, sl2⟩, n2, ho2, hc2, hdn2, hd2⟩, _⟩ := I.list hy
  simp only at hc hd hc2 hd2
  subst hc hd hc2 hd2
  have e1 := r1.length
  have e2 := r2.length
  have e : its.toArray ++ its2.toArray = (its ++ its2).toArray := by simp
  refine concat_meets ⟨_, ho, rfl⟩ ⟨_, ho2, rfl⟩ noFill_list_add seq_list_add PySem.F.slot_list_add PySem.F.entry_list_add (PySem.F.args_list_add_2 _ _) (PyProof.Rows.list_addW l b its.toArray its2.toArray n n2 dd dd2 sl sl2 (by simp only [List.size_toArray]; omega)) ⟨ho, ho2, ?_⟩
  rw [e]
  exact ⟨.ref _, _, I.lnew (t' := s.toks) (r1.append r2) (by rw [List.length_append]; omega), rfl, q _ I.fresh⟩
/-- lists one behind the other: a new list as data, as a cell -/
def aCat (m : Bool) : AO := fun a b κ R => ∃ xs ys, ldOf κ a = some xs ∧ ldOf κ b = some ys ∧ xs.length + ys.length ≤ sizeLine ∧ (match m with
  | true => R (.c κ.length) (κ ++ [.ld (xs ++ ys)])
  | false => R (.d (.list (xs ++ ys))) κ)
theorem oa_cat (m : Bool) (hK : X.K = K := by rfl) : OpA K X (binaryOp .Add) (rCatS K) (aCat m) := by
  obtain ⟨K, Kn, KZ, Ku⟩ := K
  change X.K = K at hK
  subst hK
  refine ⟨op_catS, ?_⟩
  intro B ρ κ H x y a b R Q g rx ry h q
  obtain ⟨xs, ys, h1, h2, hz, h⟩ := h
  obtain ⟨p, vs, rfl, s1, d1⟩ := ldOf_ok g rx h1
  obtain ⟨p', vs', rfl, s2, d2⟩ := ldOf_ok g ry h2
  refine ⟨_, _, vs, vs', rfl, rfl, s1, s2, by rw [dpa_len d1, dpa_len d2]; exact hz, fun p hp => ?_⟩
  cases m with
  | true =>
    obtain ⟨u4, g4, r4⟩ := new_ld g hp (dpa_app d1 d2)
    exact q _ _ _ _ _ _ u4 g4 r4 h
  | false =>
    obtain ⟨u4, g4, r4⟩ := new_lst g hp (dpa_app d1 d2)
    exact q _ _ _ _ _ _ u4 g4 r4 h
/-- a text none or one times -/
def aMulS : AO := fun a b κ R => match a, b with
  | .d (.str s), .d (.int n) => (n = 0 ∧ R (.d (.str Str.empty)) κ) ∨ (n = 1 ∧ R (.d (.str s)) κ)
  | _, _ => False
def rMulS : R2 := fun x y H Q => ∃ s n, x = .str s ∧ y = .int n ∧ ((n = 0 ∧ Q (.str Str.empty) H) ∨ (n = 1 ∧ Q (.str s) H))
theorem op_mulS : OpR X (binaryOp .Mult) rMulS := by
  intro pins s σ H x y v u Q I rx ry h
  obtain ⟨z, n, rfl, rfl, h⟩ := h
  obtain ⟨t, rfl⟩ := rx
  obtain ⟨t2, rfl⟩ := ry
  rcases h with ⟨rfl, q⟩ | ⟨rfl, q⟩
  · exact PySem.SB.mul ⟨by decide, fun h => absurd (by decide) h, fun h => absurd (by decide) h⟩ fun t' k => ⟨.str _, H, I.tok k, ⟨t', rfl⟩, q⟩
  · exact PySem.SB.mul ⟨by decide, fun _ h => (by simp at h), fun _ h => (by simp at h)⟩ fun t' k => ⟨.str z, H, I.tok k, ⟨t', rfl⟩, q⟩
theorem oa_mulS : OpA K X (binaryOp .Mult) rMulS aMulS := by
  refine ⟨op_mulS, ?_⟩
  intro B ρ κ H x y a b R Q g rx ry h q
  unfold aMulS at h
  split at h
  · refine ⟨_, _, rx.str, ry.int, ?_⟩
    rcases h with ⟨e, h⟩ | ⟨e, h⟩
    · exact .inl ⟨e, q.at0 g (rp_str _) h⟩
    · exact .inr ⟨e, q.at0 g (rp_str _) h⟩
  · exact h.elim

/-! ### tuple(x) -/
def aTupOf : List AV → AK → AR → Prop := fun as κ R => match as with
  | [.d (.tuple ds)] => R (.d (.tuple ds)) κ
  | [a] => ∃ ds, ldOf κ a = some ds ∧ R (.d (.tuple ds)) κ
  | _ => False
theorem ca_tuple (hK : X.K = K := by rfl) : CallA K X (.type "tuple") (fun xs H Q => ∃ p ys, xs = [.ref p] ∧ ((SqL K H p ys ∧ ∀ l, H l = none → Q (.ref l) (upd H l (.tup ys))) ∨ (SqT K H p ys ∧ Q (.ref p) H))) aTupOf := by
  obtain ⟨K, Kn, KZ, Ku⟩ := K
  change X.K = K at hK
  subst hK
  refine ⟨call_tuple_of, fun B ρ κ H xs as R Q g rs h q => ?_⟩
  unfold aTupOf at h
  split at h
  · obtain ⟨x, rfl, r⟩ := reps1 rs
    have r' := r
    obtain ⟨p, vs, rfl, s1, d1⟩ := of_tupG g r
    exact ⟨p, vs, rfl, .inr ⟨s1, q.at0 g r' h⟩⟩
  · obtain ⟨x, rfl, r⟩ := reps1 rs
    obtain ⟨ds, hd, h⟩ := h
    obtain ⟨p, vs, rfl, s1, d1⟩ := ldOf_ok g r hd
    refine ⟨p, vs, rfl, .inl ⟨s1, fun l hl => ?_⟩⟩
    obtain ⟨u4, g4, r4⟩ := new_tup g hl d1
    exact q _ _ _ _ _ _ u4 g4 r4 h
  · exact h.elim

/-! ### methods -/
theorem dpa_erase : ∀ {ds : List PyData} {vs : List V} (n : Nat), DpAll K B vs ds → DpAll K B (vs.eraseIdx n) (ds.eraseIdx n)
  | [], _, n, h => by cases h; simp; exact .nil
  | d :: ds, _, n, h => by
    cases h with
    | cons h1 h2 =>
      cases n with
      | zero => exact h2
      | succ n => exact .cons h1 (dpa_erase n h2)
/-- xs.pop(i), i not below 0 -/
def aPopAt : AV → List AV → AK → AR → Prop := fun a as κ R => match a, as with
  | .c k, [.d (.int i)] => ∃ xs w, κ[k]? = some (.ld xs) ∧ 0 ≤ i ∧ i < 2 ^ 63 ∧ xs[i.toNat]? = some w ∧ R (.d w) (κ.set k (.ld (xs.eraseIdx i.toNat)))
  | _, _ => False
theorem ma_popAt : MtA K X "list.pop" rPopAt aPopAt := by
  refine ⟨mt_popAt, fun B ρ κ H x xs a as R Q g rx rs h q => ?_⟩
  unfold aPopAt at h
  split at h
  · rename_i k i
    obtain ⟨p, hp, rfl⟩ := rx
    obtain ⟨y, rfl, ry⟩ := reps1 rs
    obtain ⟨ys, w, ek, h0, h63, hw, h⟩ := h
    obtain ⟨vs, r, eH, wr⟩ := g.ldAt hp ek
    obtain ⟨v, hv, rv⟩ := dpa_get r hw
    obtain ⟨u2, g2⟩ := wr _ _ (dpa_erase i.toNat r)
    have hl : i.toNat < vs.length := (List.getElem?_eq_some_iff.mp hv).1
    refine ⟨p, vs, i, i.toNat, v, rfl, by rw [ry.int], eH, by omega, h63, ?_, hv, q _ _ _ _ (.d w) _ u2 g2 (dp_up u2.s _ _ rv) h⟩
    have hneg : ¬ i < 0 := by omega
    have hpos : (decide (0 ≤ i) && decide (i < (vs.length : Int))) = true := by rw [Bool.and_eq_true]; exact ⟨decide_eq_true h0, decide_eq_true (by omega)⟩
    simp [seqIndex?, hneg, h0]
    omega
  · exact h.elim
/-- xs.pop() -/
def aPop : AV → List AV → AK → AR → Prop := fun a as κ R => match a, as with
  | .c k, [] => ∃ xs w, κ[k]? = some (.ld (xs ++ [w])) ∧ R (.d w) (κ.set k (.ld xs))
  | _, _ => False
theorem ma_pop : MtA K X "list.pop" rPop aPop := by
  refine ⟨mt_pop, fun B ρ κ H x xs a as R Q g rx rs h q => ?_⟩
  unfold aPop at h
  split at h
  · rename_i k
    obtain ⟨p, hp, rfl⟩ := rx
    cases rs
    obtain ⟨ys, w, ek, h⟩ := h
    obtain ⟨vs, r, eH, wr⟩ := g.ldAt hp ek
    have hl := dpa_len r
    rw [List.length_append, List.length_singleton] at hl
    obtain ⟨v, hv, rv⟩ := dpa_get r (i := ys.length) (d := w) (by simp)
    have r2 : DpAll K B vs.dropLast ys := by
      have := dpa_take (vs.length - 1) r
      rw [← List.dropLast_eq_take, List.take_append_of_le_length (by omega), List.take_of_length_le (by omega)] at this
      exact this
    obtain ⟨u2, g2⟩ := wr _ _ r2
    refine ⟨p, vs, v, rfl, rfl, eH, by rw [hl]; exact hv, q _ _ _ _ (.d w) _ u2 g2 (dp_up u2.s _ _ rv) h⟩
  · exact h.elim
/-- xs.insert(i, y), i not below 0 -/
def aInsert : AV → List AV → AK → AR → Prop := fun a as κ R => match a, as with
  | .c k, [.d (.int i), .d z] => ∃ xs, κ[k]? = some (.ld xs) ∧ xs.length < sizeLine ∧ 0 ≤ i ∧ i < 2 ^ 63 ∧ R (.d .none) (κ.set k (.ld (xs.take i.toNat ++ [z] ++ xs.drop i.toNat)))
  | _, _ => False
theorem ma_insert : MtA K X "list.insert" (fun x vs H Q => ∃ (l : Addr) (xs : List V) (i : Int) (y : V), x = .ref l ∧ vs = [.int i, y] ∧ H l = some (.lst xs) ∧ xs.length < sizeLine ∧ 0 ≤ i ∧ i < 2 ^ 63 ∧
    Q .non (upd H l (.lst (xs.take i.toNat ++ [y] ++ xs.drop i.toNat)))) aInsert := by
  refine ⟨mt_insert, fun B ρ κ H x xs a as R Q g rx rs h q => ?_⟩
  unfold aInsert at h
  split at h
  · obtain ⟨p, hp, rfl⟩ := rx
    obtain ⟨y, z, rfl, r1, r2⟩ := reps2 rs
    obtain ⟨ys, ek, hl, h0, h1, h⟩ := h
    obtain ⟨vs, r, eH, wr⟩ := g.ldAt hp ek
    obtain ⟨u2, g2⟩ := wr _ _ (dpa_app (dpa_app (dpa_take _ r) (.cons r2 .nil)) (dpa_drop _ r))
    exact ⟨p, vs, _, z, rfl, by rw [r1.int], eH, by rw [dpa_len r]; exact hl, h0, h1, q _ _ _ _ _ _ u2 g2 rp_non h⟩
  · exact h.elim
theorem dpa_strs : ∀ {ys : List Str} {vs : List V}, DpAll K B vs (ys.map .str) → vs = ys.map V.str
  | [], _, h => by cases h; rfl
  | y :: ys, _, h => by
    cases h with
    | cons h1 h2 =>
      cases h1
      rw [dpa_strs h2]; rfl
/-- s.join(x) -/
def aJoin : AV → List AV → AK → AR → Prop := fun a as κ R => match a, as with
  | .d (.str s), [.d (.tuple ds)] => ∃ ys : List Str, ds = ys.map .str ∧ (ys.map (·.length)).sum + ys.length * s.length ≤ 16777216 ∧ R (.d (.str (Txt.join s ys))) κ
  | .d (.str s), [b] => ∃ ys : List Str, ldOf κ b = some (ys.map .str) ∧ (ys.map (·.length)).sum + ys.length * s.length ≤ 16777216 ∧ R (.d (.str (Txt.join s ys))) κ
  | _, _ => False
theorem ma_join (hK : X.K = K := by rfl) : MtA K X "str.join" (fun x xs H Q => ∃ a p, ∃ ys : List Str, x = .str a ∧ xs = [.ref p] ∧ (SqL K H p (ys.map V.str) ∨ SqT K H p (ys.map V.str)) ∧
    (ys.map (·.length)).sum + ys.length * a.length ≤ 16777216 ∧ Q (.str (Txt.join a ys)) H) aJoin := by
  obtain ⟨K, Kn, KZ, Ku⟩ := K
  change X.K = K at hK
  subst hK
  refine ⟨mt_join, fun B ρ κ H x xs a as R Q g rx rs h q => ?_⟩
  unfold aJoin at h
  split at h
  · obtain ⟨y, rfl, ry⟩ := reps1 rs
    cases rx.str
    obtain ⟨ys, rfl, hz, h⟩ := h
    obtain ⟨p, vs, rfl, s1, d1⟩ := of_tupG g ry
    obtain rfl := dpa_strs d1
    exact ⟨_, p, ys, rfl, rfl, .inr s1, hz, q.at0 g (rp_str _) h⟩
  · obtain ⟨y, rfl, ry⟩ := reps1 rs
    cases rx.str
    obtain ⟨ys, hl, hz, h⟩ := h
    obtain ⟨p, vs, rfl, s1, d1⟩ := ldOf_ok g ry hl
    obtain rfl := dpa_strs d1
    exact ⟨_, p, ys, rfl, rfl, .inl s1, hz, q.at0 g (rp_str _) h⟩
  · exact h.elim

/-! ### f-strings -/
def aFmt (f : AE) : AE := fun δ κ R => f δ κ fun a κ1 => match a with
  | .d (.str y) => y.length ≤ sizeLine ∧ R (.d (.str y)) κ1
  | .d (.int i) => i.natAbs.log2 < 1920 ∧ R (.d (.str (toString i))) κ1
  | _ => False
theorem ea_fmt (h : PEa K X e t f) : PEa K X (.FormattedValue e (-1) none pos) (tFmt t) (aFmt f) :=
  ⟨pe_fmt h.pe, fun B ρ δ κ σ H R Q s g hh q => h.sd B ρ δ κ σ H _ _ s g hh fun B1 ρ1 κ1 H1 a x u1 g1 r1 h1 => by
    split at h1
    · exact .inl ⟨_, r1.str, h1.1, q _ _ _ _ _ _ u1 g1 (rp_str _) h1.2⟩
    · exact .inr ⟨_, r1.int, h1.1, q _ _ _ _ _ _ u1 g1 (rp_str _) h1.2⟩
    · exact h1.elim⟩
abbrev AJ := Str → AD → AK → (Str → AK → Prop) → Prop
def aJNil : AJ := fun acc _ κ R => R acc κ
def aJCons (f : AE) (g : AJ) : AJ := fun acc δ κ R => f δ κ fun a κ1 => match a with
  | .d (.str y) => (acc ++ y).length ≤ sizeLine ∧ g (acc ++ y) δ κ1 R
  | _ => False
def SJ (K : Frg) (ts : List TE) (g : AJ) : Prop := ∀ acc B ρ δ κ σ H (R : Str → AK → Prop) (Q : Str → Hp → Prop), S K B ρ δ σ → G K B ρ κ H → g acc δ κ R →
  (∀ B' ρ' κ' H' out, Up B ρ H B' ρ' H' → G K B' ρ' κ' H' → R out κ' → Q out H') → tJs ts acc σ H Q
structure PJa (K : Frg) (X : Cx) (es : List Expr) (ts : List TE) (g : AJ) : Prop where
  pj : PJ X es ts
  sd : SJ K ts g
variable {es : List Expr} {ts : List TE} {gj : AJ}
theorem ja_nil : PJa K X [] [] aJNil := ⟨.nil, fun acc B ρ δ κ σ H R Q s g h q => q _ _ _ _ _ Up.refl g h⟩
theorem ja_cons (h1 : PEa K X e t f) (h2 : PJa K X es ts gj) : PJa K X (e :: es) (t :: ts) (aJCons f gj) :=
  ⟨.cons h1.pe h2.pj, fun acc B ρ δ κ σ H R Q s g hh q => h1.sd B ρ δ κ σ H _ _ s g hh fun B1 ρ1 κ1 H1 a x u1 g1 r1 k1 => by
    split at k1
    · exact ⟨_, r1.str, k1.1, h2.sd _ _ _ _ _ _ _ _ _ (s.up u1.g) g1 k1.2 fun B2 ρ2 κ2 H2 out u2 g2 h2 => q _ _ _ _ _ (u1.trans u2) g2 h2⟩
    · exact k1.elim⟩
def aJoined (g : AJ) : AE := fun δ κ R => g Str.empty δ κ fun out κ1 => R (.d (.str out)) κ1
theorem ea_joined {v1 v2 : Expr} {rest : List Expr} (h : PJa K X (v1 :: v2 :: rest) ts gj) : PEa K X (.JoinedStr (v1 :: v2 :: rest) pos) (fun σ H Q => tJs ts Str.empty σ H fun out H1 => Q (.str out) H1) (aJoined gj) :=
  ⟨pe_joined h.pj, fun B ρ δ κ σ H R Q s g hh q => h.sd _ _ _ _ _ _ _ _ _ s g hh fun B1 ρ1 κ1 H1 out u1 g1 h1 => q _ _ _ _ _ _ u1 g1 (rp_str _) h1⟩

/-! ### dicts with texts and numbers as keys, data as values -/
def keyD : L2.Key → PyData
  | .inl i => .int i
  | .inr s => .str s
theorem rep_key {k : L2.Key} (h : Rep K B ρ (.d (keyD k)) v) : v = kV k := by
  cases k with
  | inl i => exact h.int
  | inr s => exact h.str
def valD (kvs : List (L2.Key × PyData)) (k : L2.Key) : Option PyData := (kvs.find? fun kv => decide (kv.1 = k)).map (·.2)
def putD (kvs : List (L2.Key × PyData)) (k : L2.Key) (v : PyData) : List (L2.Key × PyData) :=
  if (kvs.any fun kv => decide (kv.1 = k)) = true then kvs.map (fun kv => if kv.1 = k then (kv.1, v) else kv) else kvs ++ [(k, v)]
def mergeD (kvs more : List (L2.Key × PyData)) : List (L2.Key × PyData) := more.foldl (fun acc kv => putD acc kv.1 kv.2) kvs
theorem valD_pos {k k' : L2.Key} {d : PyData} {r : List (L2.Key × PyData)} (h : k' = k) : valD ((k', d) :: r) k = some d := by simp [valD, List.find?_cons, h]
theorem valD_neg {k k' : L2.Key} {d : PyData} {r : List (L2.Key × PyData)} (h : k' ≠ k) : valD ((k', d) :: r) k = valD r k := by simp [valD, List.find?_cons, h]
theorem dpks_val {kvs : List (L2.Key × PyData)} {ws : List (L2.Key × V)} {k : L2.Key} {d : PyData} (h : DpKs K B kvs ws) : valD kvs k = some d → ∃ v, valV ws k = some v ∧ Dp K B v d := by
  unfold DpKs at h
  induction h with
  | nil => intro e; cases e
  | @cons p q ps qs h1 h2 ih =>
    obtain ⟨k1, d1⟩ := p
    obtain ⟨k2, v2⟩ := q
    obtain ⟨e, r⟩ := h1
    have e : k1 = k2 := e
    subst e
    intro hd
    by_cases hk : k1 = k
    · rw [valD_pos hk] at hd
      cases hd
      exact ⟨v2, valV_pos hk, r⟩
    · rw [valD_neg hk] at hd
      obtain ⟨v, h3, h4⟩ := ih hd
      exact ⟨v, by rw [valV_neg (p := (k1, v2)) hk]; exact h3, h4⟩
theorem dpks_any {kvs : List (L2.Key × PyData)} {ws : List (L2.Key × V)} {k : L2.Key} (h : DpKs K B kvs ws) : (kvs.any fun kv => decide (kv.1 = k)) = ws.any fun kv => decide (kv.1 = k) := by
  unfold DpKs at h
  induction h with
  | nil => rfl
  | @cons p q ps qs h1 h2 ih => rw [List.any_cons, List.any_cons, ih, h1.1]
theorem dpks_app {kvs kvs2 : List (L2.Key × PyData)} {ws ws2 : List (L2.Key × V)} (h : DpKs K B kvs ws) (h2 : DpKs K B kvs2 ws2) : DpKs K B (kvs ++ kvs2) (ws ++ ws2) := by
  unfold DpKs at h
  induction h with
  | nil => exact h2
  | cons h1 _ ih => exact .cons h1 ih
theorem dpks_put {kvs : List (L2.Key × PyData)} {ws : List (L2.Key × V)} {k : L2.Key} {d : PyData} (h : DpKs K B kvs ws) (r : Dp K B v d) : DpKs K B (putD kvs k d) (L2.putK ws k v) := by
  unfold putD L2.putK
  rw [dpks_any h]
  split
  · unfold DpKs at h
    induction h with
    | nil => exact .nil
    | @cons p q ps qs h1 h2 ih =>
      rw [List.map_cons, List.map_cons]
      refine .cons ?_ ?_
      · rw [h1.1]
        by_cases hk : q.1 = k
        · rw [if_pos hk, if_pos hk]; exact ⟨rfl, r⟩
        · rw [if_neg hk, if_neg hk]; exact h1
      · rename_i hany
        by_cases ha : (qs.any fun kv => decide (kv.1 = k)) = true
        · exact ih ha
        · have none : ∀ q ∈ qs, q.1 ≠ k := fun q hq e => ha (List.any_eq_true.mpr ⟨q, hq, decide_eq_true e⟩)
          have : ∀ {ps : List (L2.Key × PyData)} {qs : List (L2.Key × V)}, Paired (fun (p : L2.Key × PyData) (q : L2.Key × V) => p.1 = q.1 ∧ Dp K B q.2 p.2) ps qs → (∀ q ∈ qs, q.1 ≠ k) →
              Paired (fun (p : L2.Key × PyData) (q : L2.Key × V) => p.1 = q.1 ∧ Dp K B q.2 p.2) (ps.map fun kv => if kv.1 = k then (kv.1, d) else kv) (qs.map fun kv => if kv.1 = k then (kv.1, v) else kv) := by
            intro ps qs hp
            induction hp with
            | nil => intro _; exact .nil
            | @cons p q ps qs h1 h2 ih =>
              intro hn
              have hq := hn q (List.mem_cons_self ..)
              rw [List.map_cons, List.map_cons, h1.1, if_neg hq, if_neg hq]
              exact .cons h1 (ih fun z hz => hn z (List.mem_cons_of_mem _ hz))
          exact this h2 none
  · exact dpks_app h (.cons ⟨rfl, r⟩ .nil)
theorem dpks_merge : ∀ {more : List (L2.Key × PyData)} {rs : List (L2.Key × V)} {kvs : List (L2.Key × PyData)} {ws : List (L2.Key × V)}, DpKs K B more rs → DpKs K B kvs ws → DpKs K B (mergeD kvs more) (mergeK ws rs) := by
  intro more rs kvs ws r
  unfold DpKs at r
  induction r generalizing kvs ws with
  | nil => intro q; exact q
  | @cons p q ps qs h t ih =>
    intro r0
    refine ih (kvs := putD kvs p.1 p.2) (ws := L2.putK ws q.1 q.2) ?_
    rw [h.1]
    exact dpks_put r0 h.2
/-- a dict cell -/
theorem G.dkAt (g : G K B ρ κ H) {xs : List (L2.Key × PyData)} (hp : ρ[k]? = some p) (ek : κ[k]? = some (.dK xs)) : ∃ vs, DpKs K B xs vs ∧ H p = some (.dK vs) ∧
    ∀ xs' vs', DpKs K B xs' vs' → Up B ρ H B ρ (upd H p (.dK vs')) ∧ G K B ρ (κ.set k (.dK xs')) (upd H p (.dK vs')) := by
  obtain ⟨p', hp', hb, vs, r, eH⟩ := g.cell ek
  rw [hp] at hp'; cases hp'
  refine ⟨vs, r, eH, fun xs' vs' r' => ⟨G.writeUp hp, ?_⟩⟩
  have hc : CellOk K B ρ (upd H p (.dK vs')) p (.dK xs') := ⟨hb, vs', r', upd_same⟩
  exact g.write hp hb hc
/-- d[y] -/
def aDGet (f f2 : AE) : AE := fun δ κ R => f δ κ fun a κ1 => f2 δ κ1 fun b κ2 => match a with
  | .c k => ∃ kvs key d, κ2[k]? = some (.dK kvs) ∧ b = .d (keyD key) ∧ valD kvs key = some d ∧ R (.d d) κ2
  | _ => False
theorem ea_dget {l : Nat} (hr : Room l X.A) (h1 : PEa K X e t f) (h2 : PEa K X e2 u f2) (hs : NoSl e2 := by exact fun _ _ => rfl) : PEa K X (.Subscript e e2 pos) (tDGet t u) (aDGet f f2) :=
  ⟨pe_dget (Nat.lt_of_le_of_lt (by omega) hr.units) h1.pe h2.pe hs, fun B ρ δ κ σ H R Q s g hh q => h1.sd B ρ δ κ σ H _ _ s g hh fun B1 ρ1 κ1 H1 a x u1 g1 r1 k1 => h2.sd _ _ _ _ _ _ _ _ (s.up u1.g) g1 k1 fun B2 ρ2 κ2 H2 b y u2 g2 r2 k2 => by
    split at k2
    · obtain ⟨kvs, key, d, ek, rfl, hv, k2⟩ := k2
      obtain ⟨p, hp, rfl⟩ := r1.up u2.g
      obtain ⟨vs, r, eH, _⟩ := g2.dkAt hp ek
      obtain ⟨v, hv', rv⟩ := dpks_val r hv
      have := rep_key r2
      subst this
      exact ⟨p, v, rfl, by rw [← hv']; exact DGet.k eH, q _ _ _ _ (.d d) _ (u1.trans u2) g2 rv k2⟩
    · exact k2.elim⟩
/-- d[y] = v -/
def aDPut (fo fi fv : AE) : AS := fun A δ κ => fv δ κ fun v κ1 => fo δ κ1 fun a κ2 => fi δ κ2 fun b κ3 => match a with
  | .c k => ∃ kvs key d, κ3[k]? = some (.dK kvs) ∧ b = .d (keyD key) ∧ v = .d d ∧ kvs.length < sizeLine ∧ A.nx δ (κ3.set k (.dK (putD kvs key d)))
  | _ => False
variable {o i val : Expr} {to' ti tv : TE} {fo fi fv : AE} {pos' : Pos}
theorem sa_dput {l : Nat} (hr : Room l X.A) (ho : PEa K X o to' fo) (hi : PEa K X i ti fi) (hv : PEa K X val tv fv) (hs : swapsWith val (some (.Subscript o i pos')) pos.line X.env = pure false := by rfl) :
    PSa K X (.Assign [.Subscript o i pos'] val pos) (sDPut to' ti tv) (aDPut fo fi fv) :=
  ⟨ps_dput (Nat.lt_of_le_of_lt (by omega) hr.units) ho.pe hi.pe hv.pe hs, fun B ρ δ κ σ H A D s g l hh im => hv.sd B ρ δ κ σ H _ _ s g hh fun B1 ρ1 κ1 H1 vv xv u1 g1 r1 k1 => ho.sd _ _ _ _ _ _ _ _ (s.up u1.g) g1 k1 fun B2 ρ2 κ2 H2 a xo u2 g2 r2 k2 => hi.sd _ _ _ _ _ _ _ _ (s.up (u1.trans u2).g) g2 k2 fun B3 ρ3 κ3 H3 b xi u3 g3 r3 k3 => by
    split at k3
    · obtain ⟨kvs, key, d, ek, rfl, rfl, hl, k3⟩ := k3
      obtain ⟨p, hp, rfl⟩ := r2.up u3.g
      obtain ⟨vs, r, eH, wr⟩ := g3.dkAt hp ek
      have := rep_key r3
      subst this
      have rd : Dp K B3 xv d := dp_up (u2.trans u3).s _ _ r1
      obtain ⟨u4, g4⟩ := wr _ _ (dpks_put (k := key) r rd)
      have w := ((u1.trans u2).trans u3).trans u4
      refine ⟨p, _, rfl, DPut.k eH (by rw [← Paired.length r]; exact hl), im.nx _ _ _ _ _ _ w.n g4 (s.up w.g) (Nat.le_trans l (w.len g g4)) k3⟩
    · exact k3.elim⟩
/-- {k: v, ..} -/
abbrev APs := AD → AK → (List (AV × AV) → AK → Prop) → Prop
def aPNil : APs := fun _ κ R => R [] κ
def aPCons (fk fv : AE) (g : APs) : APs := fun δ κ R => fk δ κ fun a κ1 => fv δ κ1 fun b κ2 => g δ κ2 fun ps κ3 => R ((a, b) :: ps) κ3
abbrev RepP (K : PySem.W.Frag) (B : Hp) (ρ : List Addr) : List (AV × AV) → List (V × V) → Prop := Paired fun p q => Rep K B ρ p.1 q.1 ∧ Rep K B ρ p.2 q.2
theorem RepP.up (w : Ug B ρ B' ρ') {as : List (AV × AV)} {vs : List (V × V)} (h : RepP K B ρ as vs) : RepP K B' ρ' as vs := Paired.mapP h fun _ _ r => ⟨r.1.up w, r.2.up w⟩
def SP (K : Frg) (ts : List (TE × TE)) (g : APs) : Prop := ∀ B ρ δ κ σ H (R : List (AV × AV) → AK → Prop) (Q : List (V × V) → Hp → Prop), S K B ρ δ σ → G K B ρ κ H → g δ κ R →
  (∀ B' ρ' κ' H' as vs, Up B ρ H B' ρ' H' → G K B' ρ' κ' H' → RepP K B' ρ' as vs → R as κ' → Q vs H') → tPairs ts σ H Q
structure PPa (K : Frg) (X : Cx) (pos : Pos) (keys : List (Option Expr)) (values : List Expr) (ts : List (TE × TE)) (g : APs) : Prop where
  pp : PPs X pos keys values ts
  sd : SP K ts g
variable {ks : List (Option Expr)} {vs : List Expr} {tps : List (TE × TE)} {gp : APs}
theorem pa_pnil : PPa K X pos [] [] [] aPNil := ⟨pps_nil, fun B ρ δ κ σ H R Q s g h q => q _ _ _ _ _ _ Up.refl g .nil h⟩
theorem pa_pcons (h1 : PEa K X e t f) (h2 : PEa K X e2 u f2) (h3 : PPa K X pos ks vs tps gp) : PPa K X pos (some e :: ks) (e2 :: vs) ((t, u) :: tps) (aPCons f f2 gp) :=
  ⟨pps_cons h1.pe h2.pe h3.pp, fun B ρ δ κ σ H R Q s g hh q => h1.sd B ρ δ κ σ H _ _ s g hh fun B1 ρ1 κ1 H1 a x u1 g1 r1 k1 => h2.sd _ _ _ _ _ _ _ _ (s.up u1.g) g1 k1 fun B2 ρ2 κ2 H2 b y u2 g2 r2 k2 =>
    h3.sd _ _ _ _ _ _ _ _ (s.up (u1.trans u2).g) g2 k2 fun B3 ρ3 κ3 H3 as ws u3 g3 r3 k3 => q _ _ _ _ _ _ ((u1.trans u2).trans u3) g3 (.cons ⟨r1.up (u2.trans u3).g, r2.up u3.g⟩ r3) k3⟩
def aDisp (g : APs) : AE := fun δ κ R => g δ κ fun ps κ1 => ∃ kvs : List (L2.Key × PyData), ps = kvs.map (fun p => (.d (keyD p.1), .d p.2)) ∧ kvs.length ≤ 15 ∧ R (.c κ1.length) (κ1 ++ [.dK (mergeD [] kvs)])
theorem repP_kvs : ∀ {kvs : List (L2.Key × PyData)} {ps : List (V × V)}, RepP K B ρ (kvs.map (fun p => (.d (keyD p.1), .d p.2))) ps → ∃ ws : List (L2.Key × V), ps = ws.map (fun p => (kV p.1, p.2)) ∧ DpKs K B kvs ws
  | [], _, h => by cases h; exact ⟨[], rfl, .nil⟩
  | p :: kvs, _, h => by
    rw [List.map_cons] at h
    cases h with
    | @cons _ b _ bs h1 h2 =>
      obtain ⟨ws, rfl, r⟩ := repP_kvs h2
      obtain ⟨b1, b2⟩ := b
      have e : b1 = kV p.1 := rep_key h1.1
      subst e
      exact ⟨(p.1, b2) :: ws, rfl, .cons ⟨rfl, h1.2⟩ r⟩
theorem ea_disp {keys : List (Option Expr)} {values : List Expr} (h : PPa K X pos keys values tps gp) (hall : keys.all (·.isSome) = true := by rfl) (hl : keys.length = values.length := by rfl) (h0 : keys ≠ [] := by exact List.cons_ne_nil _ _)
    (h15 : keys.length ≤ 15 := by decide) : PEa K X (.Dict keys values pos) (tDisp tps) (aDisp gp) :=
  ⟨pe_disp h.pp hall hl h0 h15, fun B ρ δ κ σ H R Q s g hh q => by
    intro p hp
    have hb := g.fresh hp
    have hr : p ∉ ρ := fun z => by
      obtain ⟨i, hi⟩ := List.mem_iff_getElem?.mp z
      exact g.nin hp hi rfl
    refine h.sd B ρ δ κ σ _ _ _ s (g.off hb hr (K.up _ _ _ _ _ _ (Up.refl.off hp).n g.z)) hh fun B1 ρ1 κ1 H1 as vs u1 g1 r1 h1 => ?_
    obtain ⟨kvs, rfl, h15, h1⟩ := h1
    obtain ⟨ws, rfl, rd⟩ := repP_kvs r1
    obtain ⟨eD, b1, n1⟩ := u1.f p (.dK []) upd_same (.inl hb) hr
    have b1 : B1 p = none := b1.elim id fun ⟨ws, z⟩ => by cases z
    refine ⟨eD, ws, rfl, by rw [← Paired.length rd]; exact h15, ?_⟩
    have wz : Up B ρ H B1 (ρ1 ++ [p]) (upd H1 p (.dK (mergeK [] ws))) := by
      refine ⟨u1.s, fun i a h => get_app (u1.p i a h), fun r o h1 h2 h3 => ?_⟩
      have hq := ne_of_none h1 hp
      obtain ⟨y1, y2, y3⟩ := u1.f r o (by rw [upd_ne hq]; exact h1) h2 h3
      refine ⟨by rw [upd_ne hq]; exact y1, y2, fun z => ?_⟩
      rcases List.mem_append.mp z with z | z
      · exact y3 z
      · exact hq (by simpa using z)
    -- the dict becomes a cell
    have g2 : G K B1 (ρ1 ++ [p]) (κ1 ++ [.dK (mergeD [] kvs)]) (upd H1 p (.dK (mergeK [] ws))) := by
      have hc : CellOk K B1 ρ1 (upd H1 p (.dK (mergeK [] ws))) p (.dK (mergeD [] kvs)) := ⟨b1, _, dpks_merge rd .nil, upd_same⟩
      refine ⟨fun b u e => ?_, by rw [List.length_append, List.length_append, g1.len] <;> rfl, fun i j r h1 h2 => ?_, fun i r c h1 h2 => ?_, K.up _ _ _ _ _ _ wz.n g.z⟩
      · rw [upd_ne (ne_of_none e b1)]; exact g1.ex b u e
      · rcases get_snoc h1 with ⟨l1, e1⟩ | ⟨l1, e1⟩
        · rcases get_snoc h2 with ⟨l2, e2⟩ | ⟨l2, e2⟩
          · exact g1.inj i j r e1 e2
          · subst e2; exact absurd (mem_of_get e1) n1
        · rcases get_snoc h2 with ⟨l2, e2⟩ | ⟨l2, e2⟩
          · subst e1; exact absurd (mem_of_get e2) n1
          · rw [l1, l2]
      · rcases get_snoc h1 with ⟨l1, e1⟩ | ⟨l1, e1⟩
        · rw [List.getElem?_append_left (g1.len ▸ l1)] at h2
          have hq : r ≠ p := fun z => n1 (z ▸ mem_of_get e1)
          exact (g1.at' i r c e1 h2).up up_snoc Or.inl fun o' e => by rw [upd_ne hq]; exact e
        · subst e1
          rcases get_snoc h2 with ⟨l2, e2⟩ | ⟨l2, e2⟩
          · rw [l1, g1.len] at l2; exact absurd l2 (Nat.lt_irrefl _)
          · subst e2; exact hc.up up_snoc Or.inl fun _ e => e
    exact q B1 (ρ1 ++ [p]) _ _ _ _ wz g2 (rep_new g1) h1⟩
end Ab
set_option Elab.async false
set_option linter.all false
set_option maxRecDepth 100000
set_option maxHeartbeats 4000000
/-! Ab9: objects: attributes, methods, new ones; a try from whose body nothing is raised -/
namespace Ab
open PySem L2
variable {K : Frg} {B B' B2 H H' H2 : Hp} {ρ ρ' ρ2 : List Addr} {κ κ' : AK} {δ : AD} {σ : L2.St} {p : Addr} {k : Nat} {v x y z : V} {a b c : AV}
variable {X : Cx} {e e2 : Expr} {t u : TE} {f f2 : AE} {pos : Pos}
/-! ### attributes -/
def lookA (g : Str) : List (Str × AV) → Option AV
  | [] => none
  | (h, x) :: r => if h = g then some x else lookA g r
def putA (g : Str) (v : AV) : List (Str × AV) → List (Str × AV)
  | [] => [(g, v)]
  | (h, x) :: r => if h = g then (h, v) :: r else (h, x) :: putA g v r
theorem look_cons_eq {g : Str} {v : V} {r : List (Str × V)} : List.lookup g ((g, v) :: r) = some v := by simp
theorem look_cons_ne {g h : Str} {v : V} {r : List (Str × V)} (n : h ≠ g) : List.lookup g ((h, v) :: r) = List.lookup g r := by
  have : (g == h) = false := by simpa using fun e => n (Eq.symm e)
  simp [List.lookup, this]
theorem repKs_look {g : Str} : ∀ {fs : List (Str × AV)} {ws : List (Str × V)} {b : AV}, RepKs K B ρ fs ws → lookA g fs = some b → ∃ v, ws.lookup g = some v ∧ Rep K B ρ b v
  | _, _, _, .nil, e => by cases e
  | (h, x) :: r, (h', w) :: ws, b, .cons h1 h2, e => by
    obtain ⟨e1, r1⟩ := h1
    have e1 : h = h' := e1
    subst e1
    unfold lookA at e
    by_cases hg : h = g
    · rw [if_pos hg] at e; cases e
      subst hg
      exact ⟨w, look_cons_eq, r1⟩
    · rw [if_neg hg] at e
      obtain ⟨v, h3, h4⟩ := repKs_look h2 e
      exact ⟨v, by rw [look_cons_ne hg]; exact h3, h4⟩
theorem repKs_none {g : Str} : ∀ {fs : List (Str × AV)} {ws : List (Str × V)}, RepKs K B ρ fs ws → lookA g fs = none → ws.lookup g = none
  | _, _, .nil, _ => rfl
  | (h, x) :: r, (h', w) :: ws, .cons h1 h2, e => by
    obtain ⟨e1, r1⟩ := h1
    have e1 : h = h' := e1
    subst e1
    unfold lookA at e
    by_cases hg : h = g
    · rw [if_pos hg] at e; cases e
    · rw [if_neg hg] at e
      rw [look_cons_ne hg]
      exact repKs_none h2 e
theorem repKs_put {g : Str} {b : AV} {v : V} (rb : Rep K B ρ b v) : ∀ {fs : List (Str × AV)} {ws : List (Str × V)}, RepKs K B ρ fs ws → RepKs K B ρ (putA g b fs) (putF g v ws)
  | _, _, .nil => .cons ⟨rfl, rb⟩ .nil
  | (h, x) :: r, (h', w) :: ws, .cons h1 h2 => by
    obtain ⟨e1, r1⟩ := h1
    have e1 : h = h' := e1
    subst e1
    show RepKs K B ρ (if h = g then (h, b) :: r else (h, x) :: putA g b r) (if h = g then (h, v) :: ws else (h, w) :: putF g v ws)
    by_cases hg : h = g
    · rw [if_pos hg, if_pos hg]; exact .cons ⟨rfl, rb⟩ h2
    · rw [if_neg hg, if_neg hg]; exact .cons ⟨rfl, r1⟩ (repKs_put rb h2)
theorem repKs_len : ∀ {fs : List (Str × AV)} {ws : List (Str × V)}, RepKs K B ρ fs ws → ws.length = fs.length
  | _, _, .nil => rfl
  | _ :: _, _ :: _, .cons _ h2 => congrArg (· + 1) (repKs_len h2)
theorem G.insAt (g : G K B ρ κ H) {C : Addr} {fs : List (Str × AV)} (hp : ρ[k]? = some p) (ek : κ[k]? = some (.ins C fs)) : ∃ dx ws, RepKs K B ρ fs ws ∧ H p = some (.ins C dx ws) ∧
    ∀ fs' ws', RepKs K B ρ fs' ws' → Up B ρ H B ρ (upd H p (.ins C dx ws')) ∧ G K B ρ (κ.set k (.ins C fs')) (upd H p (.ins C dx ws')) := by
  obtain ⟨p', hp', hb, dx, ws, r, eH⟩ := g.cell ek
  rw [hp] at hp'; cases hp'
  refine ⟨dx, ws, r, eH, fun fs' ws' r' => ⟨G.writeUp hp, ?_⟩⟩
  have hc : CellOk K B ρ (upd H p (.ins C dx ws')) p (.ins C fs') := ⟨hb, dx, ws', r', upd_same⟩
  exact g.write hp hb hc
/-- o.g -/
def aFld (C : Addr) (g : Str) (fo : AE) : AE := fun δ κ R => fo δ κ fun a κ1 => match a with
  | .c k => ∃ fs b, κ1[k]? = some (.ins C fs) ∧ lookA g fs = some b ∧ R b κ1
  | _ => False
theorem ea_fld {C : Addr} {g : Str} (hc : Cls K C) (hn : NoAttr K C g) (h : PEa K X e t f) (hb : attributeBase e g X.env (eval e X.env) = eval e X.env := by rfl) (hK : X.K = K := by rfl) : PEa K X (.Attribute e g pos) (tFld K t g) (aFld C g f) := by
  obtain ⟨K, Kn, KZ, Ku⟩ := K
  change X.K = K at hK
  subst hK
  exact ⟨pe_fld h.pe hb, fun B ρ δ κ σ H R Q s gg hh q => h.sd B ρ δ κ σ H _ _ s gg hh fun B1 ρ1 κ1 H1 a x u1 g1 r1 h1 => by
    split at h1
    · obtain ⟨fs, b, ek, lb, h1⟩ := h1
      obtain ⟨p, hp, rfl⟩ := r1
      obtain ⟨dx, ws, r, eH, _⟩ := g1.insAt hp ek
      obtain ⟨v, lv, rv⟩ := repKs_look r lb
      exact ⟨p, C, dx, ws, v, rfl, eH, hc, hn, lv, q _ _ _ _ _ _ u1 g1 rv h1⟩
    · exact h1.elim⟩
/-- o.g = v -/
def aFldSet (C : Addr) (g : Str) (fo fv : AE) : AS := fun A δ κ => fv δ κ fun v κ1 => fo δ κ1 fun a κ2 => match a with
  | .c k => ∃ fs, κ2[k]? = some (.ins C fs) ∧ fs.length < 1000 ∧ A.nx δ (κ2.set k (.ins C (putA g v fs)))
  | _ => False
variable {o val : Expr} {to' tv : TE} {fo fv : AE} {pos' : Pos}
theorem sa_fld {C : Addr} {g : Str} (hc : Cls K C) (hn : NoAttr K C g) (ho : PEa K X o to' fo) (hv : PEa K X val tv fv) (hs : swapsWith val (some (.Attribute o g pos')) pos.line X.env = pure false := by rfl) (hK : X.K = K := by rfl) :
    PSa K X (.Assign [.Attribute o g pos'] val pos) (sFld K to' tv g) (aFldSet C g fo fv) := by
  obtain ⟨K, Kn, KZ, Ku⟩ := K
  change X.K = K at hK
  subst hK
  exact ⟨ps_fld ho.pe hv.pe hs, fun B ρ δ κ σ H A D s gg l hh im => hv.sd B ρ δ κ σ H _ _ s gg hh fun B1 ρ1 κ1 H1 vv xv u1 g1 r1 k1 => ho.sd _ _ _ _ _ _ _ _ (s.up u1.g) g1 k1 fun B2 ρ2 κ2 H2 a xo u2 g2 r2 k2 => by
    split at k2
    · obtain ⟨fs, ek, hl, k2⟩ := k2
      obtain ⟨p, hp, rfl⟩ := r2
      obtain ⟨dx, ws, r, eH, wr⟩ := g2.insAt hp ek
      obtain ⟨u3, g3⟩ := wr _ _ (repKs_put (g := g) (r1.up u2.g) r)
      have w := (u1.trans u2).trans u3
      exact ⟨p, C, dx, ws, rfl, eH, hc, hn, by rw [repKs_len r]; exact hl, im.nx _ _ _ _ _ _ w.n g3 (s.up w.g) (Nat.le_trans l (w.len gg g3)) k2⟩
    · exact k2.elim⟩
/-- o.g op= v, numbers -/
def aFldAug (C : Addr) (g : Str) (h : Int → Int → Int) (fo fv : AE) : AS := fun A δ κ => fo δ κ fun a κ1 => match a with
  | .c k => ∃ fs i, κ1[k]? = some (.ins C fs) ∧ lookA g fs = some (.d (.int i)) ∧ fv δ κ1 fun b κ2 => match b with
    | .d (.int j) => ∃ fs', κ2[k]? = some (.ins C fs') ∧ fs'.length < 1000 ∧ A.nx δ (κ2.set k (.ins C (putA g (.d (.int (h i j))) fs')))
    | _ => False
  | _ => False
theorem sa_fldaug {C : Addr} {g : Str} {op : Operator} {h : Int → Int → Int} (hc : Cls K C) (hn : NoAttr K C g) (hop : InOp X op (fun x y H Q => ∃ i j, x = .int i ∧ y = .int j ∧ Q (.int (h i j)) H)) (ho : PEa K X o to' fo) (hv : PEa K X val tv fv) (hK : X.K = K := by rfl) :
    PSa K X (.AugAssign (.Attribute o g pos') op val pos) (sFldAug K to' tv (fun x y H Q => ∃ i j, x = .int i ∧ y = .int j ∧ Q (.int (h i j)) H) g) (aFldAug C g h fo fv) := by
  obtain ⟨K, Kn, KZ, Ku⟩ := K
  change X.K = K at hK
  subst hK
  exact ⟨ps_fldaug ho.pe hv.pe hop, fun B ρ δ κ σ H A D s gg l hh im => ho.sd _ _ _ _ _ _ _ _ s gg hh fun B1 ρ1 κ1 H1 a xo u1 g1 r1 k1 => by
    split at k1
    · obtain ⟨fs, i, ek, lb, k1⟩ := k1
      obtain ⟨p, hp, rfl⟩ := r1
      obtain ⟨dx, ws, r, eH, wr⟩ := g1.insAt hp ek
      obtain ⟨v, lv, rv⟩ := repKs_look r lb
      refine ⟨p, C, dx, ws, v, rfl, eH, hc, hn, lv, hv.sd _ _ _ _ _ _ _ _ (s.up u1.g) g1 k1 fun B2 ρ2 κ2 H2 b xv u2 g2 r2 k2 => ?_⟩
      split at k2
      · rename_i j
        obtain ⟨fs', ek', hl, k2⟩ := k2
        have hp2 := u2.p _ _ hp
        obtain ⟨dx', ws', r', eH', wr'⟩ := g2.insAt hp2 ek'
        obtain ⟨u3, g3⟩ := wr' _ _ (repKs_put (g := g) (rp_int (h i j)) r')
        have w := (u1.trans u2).trans u3
        exact ⟨i, j, rv.int, r2.int, dx', ws', eH', by rw [repKs_len r']; exact hl, im.nx _ _ _ _ _ _ w.n g3 (s.up w.g) (Nat.le_trans l (w.len gg g3)) k2⟩
      · exact k2.elim
    · exact k1.elim⟩
/-! ### methods -/
def aMeth (C : Addr) (m : Str) (F : FSp) (fo : AE) (fa : AA) : AE := fun δ κ R => fo δ κ fun a κ1 => match a with
  | .c k => ∃ fs, κ1[k]? = some (.ins C fs) ∧ lookA m fs = none ∧ fa δ κ1 fun as κ2 => callW F (fun _ _ => False) (.c k :: as) κ2 R
  | _ => False
variable {ta : TA} {fa : AA} {es : List Expr}
theorem callW_sd {F : FSp} {E : XK} {as : List AV} {vs : List V} {R : AR} {Q : VK} (g : G K B ρ κ H) (r : Reps K B ρ as vs) (h : callW F (fun _ _ => False) as κ R) (q : Nx K B ρ H R Q) : spA K F vs H Q E := by
  obtain ⟨js, asl, κl, nd, e1, e2, hF⟩ := callW_e h
  refine ⟨B, selR js ρ, κl, asl, _, _, sel_ok g nd e2, selAs_ok (fun i j p h1 h2 => selR_get h1 h2) e1 r, hF, ?_, ?_⟩
  · rintro B' ρ' κ' H' a v w2 g2 r2 ⟨l, cl, lv, hR⟩
    obtain ⟨w3, g3, r3⟩ := back_ok g nd e2 w2 g2 l cl lv
    exact q _ _ _ _ _ _ w3 g3 (r3 r2) hR
  · rintro B' ρ' κ' H' x cls d w2 g2 r2 ⟨l, cl, lv, hR⟩
    exact hR.elim
theorem se_meth {C : Addr} {m : Str} {F : FSp} {E : XK} (ho : SE K t f) (ha : SA K ta fa) : SE K (tMeth C m (spA K F) [] E t ta) (aMeth C m F f fa) := fun B ρ δ κ σ H R Q s g hh q =>
  ho B ρ δ κ σ H _ _ s g hh fun B1 ρ1 κ1 H1 a x u1 g1 r1 h1 => by
    split at h1
    · rename_i j
      obtain ⟨fs, ek, ln, h1⟩ := h1
      obtain ⟨p, hp, rfl⟩ := id r1
      obtain ⟨dx, ws, r, eH, _⟩ := g1.insAt hp ek
      refine ⟨p, dx, ws, rfl, eH, repKs_none r ln, ha _ _ _ _ _ _ _ _ (s.up u1.g) g1 h1 fun B2 ρ2 κ2 H2 as vs u2 g2 r2 h2 => ?_⟩
      show spA K F (.ref p :: (vs ++ [])) H2 Q E
      rw [List.append_nil]
      exact callW_sd g2 (.cons (r1.up u2.g) r2) h2 (q.later (u1.trans u2))
    · exact h1.elim
section
variable {l : Nat} {fm C : Addr} {fd : FuncData} {ps : List Str} {F : FSp} {m : Str} {apos : Pos} {pl : Sem Bool}
theorem ea_meth (Fo : FnOk X.prog X.w X.K X.mg X.base CX0 l fm fd ps (spA K F)) (hr : Room l X.A) (hc : Cls K C) (hm : Meth K C m fm) (hb : Binds K fd ps []) (ho : PEa K X o t f) (ha : PAa K X (e :: es) ta fa)
    (hst : starEach (e :: es) X.env = (false, eval e X.env) :: starEach es X.env := by rfl) (hpl : (backTo pos (starEach es X.env)).any (·.1) = false := by rfl)
    (ht : eval (.Call (.Attribute o m apos) (e :: es) [] pos) X.env = (do
      let ov ← eval o X.env
      standAt apos.atName
      let (f, first) ← holding [ov] (getMethod ov m pl)
      callWith pos f first (backTo pos (starEach (e :: es) X.env)) (backToKw pos (keywordEach [] X.env))) := by rfl) (hK : X.K = K := by rfl) :
    PEa K X (.Call (.Attribute o m apos) (e :: es) [] pos) (tMeth C m (spA K F) [] E0 t ta) (aMeth C m F f fa) := by
  obtain ⟨K, Kn, KZ, Ku⟩ := K
  change X.K = K at hK
  subst hK
  exact ⟨pe_meth (pl := pl) ho.pe hc hm Fo hr hb .nil pass0 ha.pa hst hpl ht, se_meth ho.sd ha.sd⟩
theorem ea_meth0 (Fo : FnOk X.prog X.w X.K X.mg X.base CX0 l fm fd ps (spA K F)) (hr : Room l X.A) (hc : Cls K C) (hm : Meth K C m fm) (hb : Binds K fd ps []) (ho : PEa K X o t f)
    (ht : eval (.Call (.Attribute o m apos) [] [] pos) X.env = (do
      let ov ← eval o X.env
      standAt apos.atName
      let (f, first) ← holding [ov] (getMethod ov m pl)
      callWith pos f first (backTo pos (starEach [] X.env)) (backToKw pos (keywordEach [] X.env))) := by rfl) (hK : X.K = K := by rfl) :
    PEa K X (.Call (.Attribute o m apos) [] [] pos) (tMeth C m (spA K F) [] E0 t tNil) (aMeth C m F f aNil) := by
  obtain ⟨K, Kn, KZ, Ku⟩ := K
  change X.K = K at hK
  subst hK
  exact ⟨pe_meth0 (pl := pl) ho.pe hc hm Fo hr hb .nil pass0 ht, se_meth ho.sd fun B ρ δ κ σ H R Q s g h q => q _ _ _ _ _ _ Up.refl g .nil h⟩
end
/-! ### a new object -/
def aMake (C : Addr) (F : FSp) (fa : AA) : AE := fun δ κ R => fa δ κ fun as κ1 => callW F (fun _ _ => False) (.c κ1.length :: as) (κ1 ++ [.ins C []]) fun a κ2 => a = .d .none ∧ R (.c κ1.length) κ2
theorem se_make {C : Addr} {F : FSp} {E : XK} (ha : SA K ta fa) : SE K (tMake C (spA K F) [] E ta) (aMake C F fa) := fun B ρ δ κ σ H R Q s g hh q =>
  ha B ρ δ κ σ H _ _ s g hh fun B1 ρ1 κ1 H1 as vs u1 g1 r1 h1 => by
    intro x dx hx hdx hne
    show spA K F (.ref x :: (vs ++ [])) _ _ E
    rw [List.append_nil]
    have nin : ∀ {q : Addr}, H1 q = none → q ∉ ρ1 := fun {q} hq z => by
      obtain ⟨i, hi⟩ := List.mem_iff_getElem?.mp z
      exact g1.nin hq hi rfl
    have g2 : G K B1 ρ1 κ1 (upd H1 dx (.own x)) := g1.off (g1.fresh hdx) (nin hdx) (K.up _ _ _ _ _ _ (Up.refl.off hdx).n g1.z)
    have hx2 : (upd H1 dx (.own x)) x = none := by rw [upd_ne (Ne.symm hne)]; exact hx
    have g3 : G K B1 (ρ1 ++ [x]) (κ1 ++ [.ins C []]) (upd (upd H1 dx (.own x)) x (.ins C dx [])) := g2.alloc hx2 (show CellOk K B1 ρ1 _ x (.ins C []) from ⟨g1.fresh hx, dx, [], .nil, upd_same⟩)
    have up3 : Up B1 ρ1 H1 B1 (ρ1 ++ [x]) (upd (upd H1 dx (.own x)) x (.ins C dx [])) := ⟨Same.refl B1, fun _ _ h => get_app h, fun q o' h1 h2 h3 => by
      have n1 := ne_of_none h1 hx
      have n2 := ne_of_none h1 hdx
      rw [upd_ne n1, upd_ne n2]
      refine ⟨h1, h2, fun z => ?_⟩
      rcases List.mem_append.mp z with z | z
      · exact h3 z
      · exact n1 (by simpa using z)⟩
    have rx : Rep K B1 (ρ1 ++ [x]) (.c κ1.length) (.ref x) := rep_new g1
    refine callW_sd g3 (.cons rx (Reps.up up3.g r1)) h1 ?_
    rintro B4 ρ4 κ4 H4 a v w4 g4 r4 ⟨rfl, hR⟩
    exact ⟨r4.non, q _ _ _ _ _ _ ((u1.trans up3).trans w4) g4 (rx.up w4.g) hR⟩
section
variable {l : Nat} {fI C : Addr} {fd : FuncData} {ps : List Str} {F : FSp} {x : Str} {q : Pos}
theorem ea_make (M : Mk K C fI) (Fo : FnOk X.prog X.w X.K X.mg X.base CX0 l fI fd ps (spA K F)) (hr : Room (l + 1) X.A) (hg : Gl X x) (hm : X.mg x = some (.ref C)) (hb : Binds K fd ps []) (ha : PAa K X (e :: es) ta fa)
    (hdb : (x == ("__debug__" : Str)) = false := by decide) (he : starEach (e :: es) X.env = (false, eval e X.env) :: starEach es X.env := by rfl) (hpl : (backTo pos (starEach es X.env)).any (·.1) = false := by rfl) (hK : X.K = K := by rfl) :
    PEa K X (.Call (.Name x q) (e :: es) [] pos) (tMake C (spA K F) [] E0 ta) (aMake C F fa) := by
  obtain ⟨K, Kn, KZ, Ku⟩ := K
  change X.K = K at hK
  subst hK
  exact ⟨pe_make M Fo hr hg hm hb .nil pass0 ha.pa hdb he hpl, se_make ha.sd⟩
end
/-! ### a try from whose body nothing is raised -/
variable {t1 : TS} {f1 : AS}
theorem sa_try0 {x n : Str} {c : Value} {i : Nat} {body suite : List Stmt} {b₀ : Stmt} {np : Pos} (hs : X.stack = X.env :: X.outer) (hf : X.env.frame = some X.env.locals) (hN : X.N.Nodup) (hi : X.N[i]? = some n) (hln : X.env.kindOf n = some .local) (hc : Names X x c)
    (hb : ∀ (pn : List (Addr × Obj)) (xe : Value → Shared → Prop), PSsa K (X.tr pn xe) body t1 f1) : PSa K X (.Try body [.ExceptHandler (some (.Name x np)) (some n) (b₀ :: suite) pos'] [] [] pos) t1 f1 :=
  ⟨ps_try_as (tb := fun _ => t1) (ts := fun _ _ _ => tNever) (Wout := fun _ _ _ _ => False) hs hf hN hi hln hc (fun u s' h => by obtain ⟨a, B, sI, pins, σ, H, cls, d, e, I, nb, up, sky, na, os, ag, w⟩ := h; exact w.elim)
    (fun W pn xe tk hp => (hb pn xe).ps) (fun a oe cls d pn _ _ => pss_never), (hb [] (fun _ _ => True)).sd⟩
end Ab
set_option Elab.async false
set_option linter.all false
set_option maxRecDepth 100000
set_option maxHeartbeats 4000000
/-! Ab10: list * n, slices of tuples, in of a dict, enumerate of a list -/
namespace Ab
open PySem L2
variable {K : Frg} {B B' B2 H H' H2 : Hp} {ρ ρ' ρ2 : List Addr} {κ κ' : AK} {δ : AD} {σ : L2.St} {p : Addr} {k : Nat} {v x y z : V} {a b c : AV}
variable {X : Cx} {e e2 : Expr} {t u : TE} {f f2 : AE} {pos : Pos}
/-! ### list * n -/
theorem q_mul_int (l : Addr) (items : Array Value) (n : Nat) (d : Option Addr) (sl : Array (Option Value)) (x : Int) (u : Tok) (hc0 : ¬(!Builtin.List.listFitsIndex x) = true) (hc1 : ¬items.size * x.toNat > (2 ^ 63 - 1) / 8) (hc2 : ¬Builtin.List.listTooLong (items.size * x.toNat) = true) :
    Meets (Builtin.«list.__mul__» ⟨[.ref l, .int x u], []⟩) (fun _ R s => s.heap.get? l = some { cls := .type "list", dict := d, data := .seq items n, slots := sl } ∧ R (.ok (.ret (Value.ref s.heap.objs.size))) { s with heap := s.heap.push { cls := Value.type "list", data := Data.seq (List.foldl (fun x1 x2 => x1 ++ x2) #[] (List.replicate (if items.isEmpty = true then 0 else x.toNat) items)) }, toks := s.toks }) :=
  .of_wp fun prog w A R s h => by
    obtain ⟨hp, g, d, tk, os⟩ := s; obtain ⟨hl, h⟩ := h
    have hsz := AutoListH.joined_fits hc2
    wp_walk; refine wpAny_ite_false (decide_eq_false (Nat.not_lt.mpr hsz)) ?_; wp_walk; exact ⟨_, rfl, h⟩
theorem q_rmul_int (a : Int) (t : Tok) (l : Addr) (items : Array Value) (n : Nat) (d : Option Addr) (sl : Array (Option Value)) :
    Meets (Builtin.«int.__rmul__» ⟨[.int a t, .ref l], []⟩) (fun _ R s => s.heap.get? l = some { cls := .type "list", dict := d, data := .seq items n, slots := sl } ∧ R (.ok (.ret Value.notImplemented)) s) :=
  .of_wp fun prog w A R s h => by obtain ⟨hp, g, d, tk, os⟩ := s; obtain ⟨hl, h⟩ := h; wp_walk; exact ⟨_, rfl, h⟩
def rMulL (K : PySem.W.Frag) : R2 := fun x y H Q => ∃ a xs n, x = V.ref a ∧ y = V.int n ∧ SqL K H a xs ∧ (n = 0 ∨ n = 1) ∧ ∀ p, H p = none → Q (.ref p) (upd H p (.lst (List.replicate n.toNat xs).flatten))
theorem op_mulL : OpR X (binaryOp .Mult) (rMulL X.K) := by
  intro pins s σ H x y v u Q I rx ry h
  obtain ⟨a, xs, n, rfl, rfl, hs, hn, q⟩ := h
  obtain rfl : v = Value.ref a := rx
  obtain ⟨tk, rfl⟩ := ry
  obtain ⟨its, rv, ⟨⟨cls, dd, data, sl⟩, m, ho, hc, hdn, hd⟩, hlen⟩ := I.list hs
  have hc1 : cls = Value.type "list" := hc
  have hd1 : data = Data.seq its.toArray m := hd
  subst hc1 hd1
  have hz : its.length ≤ sizeLine := by rw [← rv.length]; exact hlen
  have hsl := sizeLine_eq
  have hk : n.toNat ≤ 1 := by rcases hn with rfl | rfl <;> decide
  have hm : its.toArray.size * n.toNat ≤ its.length := by
    rw [List.size_toArray]
    exact Nat.le_trans (Nat.mul_le_mul_left _ hk) (Nat.le_of_eq (Nat.mul_one _))
  refine wpAny_binaryOp_repeat_ref (T := "list") (U := "int") (by decide) ⟨_, ho, rfl⟩ (fun s' => typeIs_int s' n tk) noFill_list_mul PySem.F.fills_int_mul PySem.F.slot_int_rmul repeat_list PySem.F.slot_int_index.lookup
    (call_meets PySem.F.slot_int_rmul (typeIs_int s n tk) PySem.F.entry_int_rmul (PySem.F.args_int_rmul_2 _ _) (q_rmul_int n tk a its.toArray m dd sl)
      ⟨ho, rfl, ⟨_, ho, rfl⟩, call_meets PySem.F.slot_list_mul ⟨_, ho, rfl⟩ PySem.F.entry_list_mul (PySem.F.args_list_mul_2 _ _)
        (q_mul_int a its.toArray m dd sl n tk (by rcases hn with rfl | rfl <;> decide) (by omega) (by simp only [Builtin.List.listTooLong, decide_eq_true_eq]; omega))
        ⟨ho, ?_⟩⟩)
  have e : List.foldl (fun x1 x2 => x1 ++ x2) #[] (List.replicate (if its.toArray.isEmpty = true then 0 else n.toNat) its.toArray) = (List.replicate n.toNat its).flatten.toArray := by
    rw [PyProof.Rows.listMul_foldl_if]
  rw [e]
  refine ⟨.ref _, _, I.lnew (t' := s.toks) (rv.rep n.toNat) ?_, rfl, q _ I.fresh⟩
  rw [PyProof.Rows.lm_len_rep_flat]
  have : n.toNat * xs.length ≤ 1 * xs.length := Nat.mul_le_mul_right _ hk
  omega
theorem dpa_rep {ds : List PyData} {vs : List V} (h : DpAll K B vs ds) : ∀ n : Nat, DpAll K B (List.replicate n vs).flatten (List.replicate n ds).flatten
  | 0 => .nil
  | n + 1 => by
    rw [List.replicate_succ, List.replicate_succ, List.flatten_cons, List.flatten_cons]
    exact dpa_app h (dpa_rep h n)
/-- a list of data none or one times -/
def aMulL : AO := fun a b κ R => match a, b with
  | .d (.list xs), .d (.int n) => (n = 0 ∧ R (.d (.list [])) κ) ∨ (n = 1 ∧ R (.d (.list xs)) κ)
  | _, _ => False
theorem oa_mulL (hK : X.K = K := by rfl) : OpA K X (binaryOp .Mult) (rMulL K) aMulL := by
  obtain ⟨K, Kn, KZ, Ku⟩ := K
  change X.K = K at hK
  subst hK
  refine ⟨op_mulL, ?_⟩
  intro B ρ κ H x y a b R Q g rx ry h q
  unfold aMulL at h
  split at h
  · rename_i xs n
    obtain ⟨p, vs, rfl, s1, d1⟩ := of_listG g rx
    refine ⟨p, vs, n, rfl, ry.int, s1, ?_, fun l hl => ?_⟩
    · rcases h with ⟨e, _⟩ | ⟨e, _⟩
      · exact .inl e
      · exact .inr e
    · obtain ⟨u4, g4, r4⟩ := new_lst g hl (dpa_rep d1 n.toNat)
      rcases h with ⟨rfl, h⟩ | ⟨rfl, h⟩
      · exact q _ _ _ _ _ _ u4 g4 r4 h
      · have e : (List.replicate (1 : Int).toNat xs).flatten = xs := by simp
        rw [e] at r4
        exact q _ _ _ _ _ _ u4 g4 r4 h
  · exact h.elim
/-! ### slices of tuples -/
theorem cut_all {α : Type} (xs : List α) (lo hi : Option Int) (h : HT.sIx xs.length 0 lo = 0 ∧ HT.sIx xs.length xs.length hi = xs.length) : cutD xs lo hi = xs := by
  unfold cutD
  rw [h.1, h.2, List.drop_zero, Nat.sub_zero, List.take_length]
def aSlT (f : AE) (l h : AOp) : AE := fun δ κ R => f δ κ fun a κ1 => l δ κ1 fun lo κ2 => h δ κ2 fun hi κ3 => match a with
  | .d (.tuple xs) => R (.d (.tuple (cutD xs lo hi))) κ3
  | _ => False
theorem ea_sliceT {lo hi : Option Expr} {p2 : Pos} {tl th : TO} {fl fh : AOp} (h1 : PEa K X e t f) (hl : POa K X lo tl fl) (hh : POa K X hi th fh) (hK : X.K = K := by rfl) :
    PEa K X (.Subscript e (.Slice lo hi none p2) pos) (tSl (rSlA K) t tl th) (aSlT f fl fh) := by
  obtain ⟨K, Kn, KZ, Ku⟩ := K
  change X.K = K at hK
  subst hK
  refine ⟨pe_slice sl_tupA h1.pe hl.po hh.po, fun B ρ δ κ σ H R Q s g h q => ?_⟩
  refine h1.sd B ρ δ κ σ H _ _ s g h fun B1 ρ1 κ1 H1 a x u1 g1 r1 h1 => ?_
  refine hl.sd B1 ρ1 δ κ1 σ H1 _ _ (s.up u1.g) g1 h1 fun B2 ρ2 κ2 H2 lo u2 g2 h2 => ?_
  refine hh.sd B2 ρ2 δ κ2 σ H2 _ _ (s.up (u1.trans u2).g) g2 h2 fun B3 ρ3 κ3 H3 hi u3 g3 h3 => ?_
  have r3 := r1.up (u2.trans u3).g
  have q3 := q.later ((u1.trans u2).trans u3)
  split at h3
  · rename_i xs
    have r3' := r3
    obtain ⟨p, vs, rfl, s1, d1⟩ := of_tupG g3 r3
    have hlen := dpa_len d1
    refine ⟨p, vs, rfl, s1, fun hw => ?_, fun _ l hl => ?_⟩
    · rw [hlen] at hw
      rw [cut_all xs lo hi hw] at h3
      exact q3.at0 g3 r3' h3
    · obtain ⟨u4, g4, r4⟩ := new_tup g3 hl (dpa_cut d1 lo hi)
      exact q3 _ _ _ _ _ _ u4 g4 r4 h3
  · exact h3.elim
/-! ### y in d -/
theorem dpks_isSome {kvs : List (L2.Key × PyData)} {ws : List (L2.Key × V)} {k : L2.Key} (h : DpKs K B kvs ws) : (valV ws k).isSome = (valD kvs k).isSome := by
  have h1 := dpks_any (k := k) h
  rw [valV_any] at h1
  rw [← h1]
  unfold valD
  rw [Option.isSome_map, Bool.eq_iff_iff, List.any_eq_true, List.find?_isSome]
/-- y in d, y not in d -/
def aDIn (n : Bool → Bool) (fi fo : AE) : AE := fun δ κ R => fi δ κ fun b κ1 => fo δ κ1 fun a κ2 => match a with
  | .c k => ∃ kvs key, κ2[k]? = some (.dK kvs) ∧ b = .d (keyD key) ∧ R (.d (.bool (n (valD kvs key).isSome))) κ2
  | _ => False
variable {o i : Expr} {to' ti : TE} {fo fi : AE}
theorem se_din {n : Bool → Bool} (hi : SE K ti fi) (ho : SE K to' fo) : SE K (fun σ H Q => ti σ H fun y H1 => to' σ H1 fun x H2 => ∃ a o, x = .ref a ∧ DGet H2 a y o ∧ Q (.bl (n o.isSome)) H2) (aDIn n fi fo) := fun B ρ δ κ σ H R Q s g hh q =>
  hi _ _ _ _ _ _ _ _ s g hh fun B1 ρ1 κ1 H1 b y u1 g1 r1 h1 => ho _ _ _ _ _ _ _ _ (s.up u1.g) g1 h1 fun B2 ρ2 κ2 H2 a x u2 g2 r2 h2 => by
    split at h2
    · obtain ⟨kvs, key, ek, rfl, h2⟩ := h2
      obtain ⟨p, hp, rfl⟩ := r2
      obtain ⟨vs, r, eH, _⟩ := g2.dkAt hp ek
      have := rep_key (r1.up u2.g)
      subst this
      refine ⟨p, valV vs key, rfl, DGet.k eH, ?_⟩
      rw [dpks_isSome r]
      exact q _ _ _ _ _ _ (u1.trans u2) g2 (rp_bl _) h2
    · exact h2.elim
theorem ea_din {l : Nat} (hr : Room l X.A) (hi : PEa K X i ti fi) (ho : PEa K X o to' fo) (hm : behindInMarks .In o = false := by first | exact nomark _ | rfl) : PEa K X (.Compare i [.In] [o] pos) (tDIn ti to') (aDIn id fi fo) := ⟨pe_cmp (pc_din (Nat.lt_of_le_of_lt (by omega) hr.units) hi.pe ho.pe) hm, se_din (n := id) hi.sd ho.sd⟩
theorem ea_dnotin {l : Nat} (hr : Room l X.A) (hi : PEa K X i ti fi) (ho : PEa K X o to' fo) (hm : behindInMarks .NotIn o = false := by first | exact nomark _ | rfl) : PEa K X (.Compare i [.NotIn] [o] pos) (tDNotIn ti to') (aDIn not fi fo) := ⟨pe_cmp (pc_dnotin (Nat.lt_of_le_of_lt (by omega) hr.units) hi.pe ho.pe) hm, se_din (n := not) hi.sd ho.sd⟩
theorem ta_din {l : Nat} (hr : Room l X.A) (hi : PEa K X i ti fi) (ho : PEa K X o to' fo) (hm : behindInMarks .In o = false := by first | exact nomark _ | rfl) : PTa K X (.Compare i [.In] [o] pos) (tTest (tDIn ti to')) (aB (aDIn id fi fo)) := ⟨pt_cmp (pc_din (Nat.lt_of_le_of_lt (by omega) hr.units) hi.pe ho.pe) hm, st_B (se_din (n := id) hi.sd ho.sd)⟩
theorem ta_dnotin {l : Nat} (hr : Room l X.A) (hi : PEa K X i ti fi) (ho : PEa K X o to' fo) (hm : behindInMarks .NotIn o = false := by first | exact nomark _ | rfl) : PTa K X (.Compare i [.NotIn] [o] pos) (tTest (tDNotIn ti to')) (aB (aDIn not fi fo)) := ⟨pt_cmp (pc_dnotin (Nat.lt_of_le_of_lt (by omega) hr.units) hi.pe ho.pe) hm, st_B (se_din (n := not) hi.sd ho.sd)⟩
/-- {} -/
def aDNew : AE := fun _ κ R => R (.c κ.length) (κ ++ [.dK []])
theorem ea_dnew : PEa K X (.Dict [] [] pos) tDNewK aDNew := ⟨pe_dnewK, fun B ρ δ κ σ H R Q s g h q => by
  intro p hp
  refine q _ _ _ _ _ _ (g.allocUp hp) (g.alloc hp (show CellOk K B ρ _ p (.dK []) from ⟨g.fresh hp, [], .nil, upd_same⟩)) (rep_new g) h⟩
/-! ### enumerate of a list of data -/
/-- known items, with their places -/
def itE (xs : List PyData) : AIt := ⟨fun i _ => i < xs.length, fun i _ a => ∃ x, xs[i]? = some x ∧ a = .d (.tuple [.int (i : Nat), x]), fun i _ => xs.length ≤ i⟩
theorem ri_enum {xs : List PyData} {p : Addr} {vs : List V} (hs : SqL K B p vs) (d : DpAll K B vs xs) : RI K B ρ H (Ite K p) (itE xs) := by
  intro B2 ρ2 κ2 H2 w2 g2 i
  have hs2 : SqL K H2 p vs := g2.ex.seq (w2.s.seq hs)
  have hl := dpa_len d
  refine ⟨fun h => ⟨vs, hs2, by rw [hl]; exact h⟩, fun h => ?_⟩
  obtain ⟨w, hw, r⟩ := dpa_get d (getLt h)
  refine ⟨⟨vs, w, hs2, hw⟩, fun x H3 hy => ?_⟩
  obtain ⟨T, x0, rfl, hT, rfl, f⟩ := hy
  have e := (f vs hs2).symm.trans hw
  cases e
  obtain ⟨u4, g4, r4⟩ := new_tup g2 hT (ds := [.int (i : Nat), xs[i]'h]) (.cons (.int _) (.cons (dp_up w2.s _ _ r) .nil))
  exact ⟨_, _, u4, g4, r4, _, getLt h, rfl⟩
def aEnum (fa : AA) : AI := fun δ κ R => fa δ κ fun as κ1 => match as with
  | [.d (.list xs)] => R (itE xs) κ1
  | _ => False
variable {ta : TA} {fa : AA}
theorem ia_enum {a : Expr} {elts : List Expr} {kk : Nat} {tpos q pos : Pos} (hg : Gl X "enumerate") (hm : X.mg "enumerate" = none) (ha : PAa K X [a] ta fa) (hs : starEach [a] X.env = [(false, eval a X.env)] := by rfl) (hK : X.K = K := by rfl) :
    PIa K X (.Tuple elts kk tpos) (.Call (.Name "enumerate" q) [a] [] pos) (iEnum K ta) (aEnum fa) := by
  obtain ⟨K, Kn, KZ, Ku⟩ := K
  change X.K = K at hK
  subst hK
  exact ⟨pi_enum hg hm ha.pa hs, fun B ρ δ κ σ H R Q s g hh q => ha.sd _ _ _ _ _ _ _ _ s g hh fun B1 ρ1 κ1 H1 as vs w1 g1 r1 h1 => by
    split at h1
    · obtain ⟨x, rfl, r⟩ := reps1 r1
      obtain ⟨p, vs, rfl, s1, d1⟩ := r.list
      exact ⟨p, vs, rfl, g1.ex.seq s1, q _ _ _ _ _ _ w1 g1 (ri_enum s1 d1) h1⟩
    · exact h1.elim⟩
end Ab
set_option Elab.async false
set_option linter.all false
set_option maxRecDepth 100000
set_option maxHeartbeats 4000000
/-! Ab11: enumerate of a tuple -/
namespace Ab
open PySem L2 PySem.Spec PyProof.Rows
theorem meets_enumerate_newT (l : Addr) (items : Array Value) (n : Nat) (dct : Option Addr) (sl : Array (Option Value)) :
    Meets (Builtin.«enumerate.__new__» ⟨[.type "enumerate", .ref l], []⟩) (fun _ R s => s.heap.get? l = some { cls := .type "tuple", dict := dct, data := .seq items n, slots := sl } ∧
      R (.ok (.ret (.ref (s.heap.push { cls := .type "tuple_iterator", data := .fields #[.ref l, .int 0 0] }).objs.size)))
        { s with heap := (s.heap.push { cls := .type "tuple_iterator", data := .fields #[.ref l, .int 0 0] }).push { cls := .type "enumerate", data := .fields #[.none, .bool false, .ref s.heap.objs.size, rawInt 0, .none, .none] } }) :=
  .of_wp fun prog w A R s h => by
    obtain ⟨hp, g, d, tk, os⟩ := s; obtain ⟨hl, h⟩ := h
    have hsub := sub_enumerate
    have hL : Heap.IsTuple (Shared.heap ⟨hp, g, d, tk, os⟩) l items := ⟨_, hl, rfl, n, rfl⟩
    wp_walk using wpAny_loadPart' hl
    refine wpAny_stack_any fun st => wpAny_pure ?_
    split
    · rename_i c _ _ _ _ _
      cases (c == Value.type "enumerate")
      · wp_walk using wpAny_loadPart' hl, wpAny_pyIter_tuple hL
        exact ⟨_, rfl, h⟩
      · wp_walk using wpAny_loadPart' hl, wpAny_pyIter_tuple hL
        exact ⟨_, rfl, h⟩
    · wp_walk using wpAny_loadPart' hl, wpAny_pyIter_tuple hL
      exact ⟨_, rfl, h⟩
section
variable {prog : Program} {w : World} {A : Around} {E : Value → Shared → Prop} {s : Shared}
theorem call_enumerate_tuple {l : Addr} {items : Array Value} {Q : Value → Shared → Prop} (hL : s.heap.IsTuple l items)
    (h : ∀ h', IsEnum h' (s.heap.objs.size + 1) s.heap.objs.size 0 .none → h'.IsTupleIter s.heap.objs.size l 0 → h'.objs.size = s.heap.objs.size + 2 →
      (∀ b o, s.heap.get? b = some o → h'.get? b = some o) → Q (.ref (s.heap.objs.size + 1)) { s with heap := h' }) :
    wpAny (model prog w) A (call (.type "enumerate") [.ref l]) Q E s := by
  obtain ⟨⟨c, dct, dt, sl⟩, hl, hc, n, hd⟩ := hL
  replace hc : c = .type "tuple" := hc
  replace hd : dt = .seq items n := hd
  subst hc hd
  refine callType_new PySem.F.called_enumerate (by decide) (PySem.F.typeCall_enumerate_1 _) (PySem.F.newCall_enumerate_1 _) (fun obj => PySem.F.args_object_init_2 obj _) PySem.F.entry_enumerate_new
    (meets_enumerate_newT l items n dct sl) ⟨hl, ?_⟩
  have hz : (s.heap.push { cls := .type "tuple_iterator", data := .fields #[.ref l, .int 0 0] }).objs.size = s.heap.objs.size + 1 := Heap.size_push ..
  show _ ∧ _
  rw [hz]
  have he : IsEnum ((s.heap.push { cls := .type "tuple_iterator", data := .fields #[.ref l, .int 0 0] }).push
      { cls := .type "enumerate", data := .fields #[.none, .bool false, .ref s.heap.objs.size, rawInt 0, .none, .none] }) (s.heap.objs.size + 1) s.heap.objs.size 0 .none := by
    have := Heap.get?_push_size (s.heap.push { cls := .type "tuple_iterator", data := .fields #[.ref l, .int 0 0] })
      (o := { cls := .type "enumerate", data := .fields #[.none, .bool false, .ref s.heap.objs.size, rawInt 0, .none, .none] }) rfl
    rw [hz] at this; exact this
  refine ⟨⟨_, he, rfl⟩, h _ he ⟨_, Heap.get?_push_of_some _ (Heap.get?_push_size _ rfl), rfl, rfl⟩ (by rw [Heap.size_push, hz]) fun b o x => Heap.get?_push_of_some _ (Heap.get?_push_of_some _ x)⟩
theorem draws_tuple (hh : A.handled = none) (it l : Addr) (items : Array Value) : Draws prog w A it [it, l] items.size (fun i x => items[i]? = some x) (fun i h => h.IsTupleIter it l i ∧ h.IsTuple l items ∧ it ≠ l) where
  live := fun i h ⟨⟨o, ho, _⟩, _⟩ => ⟨o, ho⟩
  frame := fun i h h' ⟨⟨o, ho, c, d⟩, ⟨o2, ho2, r⟩, ne⟩ k => ⟨⟨o, k it (by simp) o ho, c, d⟩, ⟨o2, k l (by simp) o2 ho2, r⟩, ne⟩
  item := fun i s Q E hi ⟨hit, ht, ne⟩ hQ => RZ.nextOf_tuple_item hit ht (Array.getElem?_eq_getElem hi) fun h' hit' sb => by
    have := hQ items[i] h' s.toks (Array.getElem?_eq_getElem hi) ⟨hit', ht.extBut sb.extBut (Ne.symm ne), ne⟩ sb
    exact this
  done := fun s Q E ⟨hit, ht, ne⟩ hE => RZ.nextOf_tuple_end hh hit ht (by simp) fun h' e he hc => hE h' e he hc
theorem draws_end (hh : A.handled = none) (it l : Addr) (items : Array Value) (n : Nat) (hn : items[n]? = none) : Draws prog w A it [it, l] n (fun _ _ => False) (fun i h => i = n ∧ h.IsTupleIter it l i ∧ h.IsTuple l items) where
  live := fun i h ⟨_, ⟨o, ho, _⟩, _⟩ => ⟨o, ho⟩
  frame := fun i h h' ⟨e, ⟨o, ho, c, d⟩, ⟨o2, ho2, r⟩⟩ k => ⟨e, ⟨o, k it (by simp) o ho, c, d⟩, ⟨o2, k l (by simp) o2 ho2, r⟩⟩
  item := fun i s Q E hi ⟨e, _⟩ hQ => by omega
  done := fun s Q E ⟨_, hit, ht⟩ hE => RZ.nextOf_tuple_end hh hit ht hn fun h' e he hc => hE h' e he hc
end
/-- the tuple at a, the items in new pairs -/
def Itq (K : PySem.W.Frag) (a : Addr) : It :=
  ⟨fun i H => ∃ (xs : List V) (x : V), SqT K H a xs ∧ xs[i]? = some x, fun i H v H' => ∃ T x, v = .ref T ∧ H T = none ∧ H' = upd H T (.tup [.int (i : Nat), x]) ∧ ∀ xs, SqT K H a xs → xs[i]? = some x, fun i H => ∃ xs : List V, SqT K H a xs ∧ xs.length ≤ i⟩
theorem turn_enumT {P : Program} {w : World} {K : PySem.W.Frag} {elts : List Expr} {kk : Nat} {tpos : Pos} (a e it : Addr) :
    Turn P w K (.Tuple elts kk tpos) (Itq K a) [e, it] e (fun i h => (∃ old, IsEnum h e it ((i : Nat) : Int) old) ∧ h.IsTupleIter it a i ∧ e ≠ it) where
  mem := by simp
  obj := fun i h st b hb => by
    obtain ⟨⟨old, he⟩, ⟨o, ho, hc, hd⟩, _⟩ := st
    have e' : b = e ∨ b = it := by simpa using hb
    rcases e' with z | z
    · rw [z]; exact ⟨_, he, fun v q => nomatch q⟩
    · rw [z]; exact ⟨o, ho, fun v q => by rw [hd] at q; cases q⟩
  keep := fun i h h' st k => let ⟨⟨old, he⟩, hi, hne⟩ := st; ⟨⟨old, k e (by simp) _ he⟩, hi.at fun o q => k it (by simp) o q, hne⟩
  item := by
    intro X hP hw hK hc i pins s σ H E I hf st hg
    subst hP hw hK
    obtain ⟨⟨old, he⟩, hit, hne⟩ := st
    obtain ⟨xs, x, hq, hx⟩ := hg
    obtain ⟨its, rv, p, hz⟩ := I.tuple hq
    obtain ⟨u, hu, ru⟩ := rv.get hx
    have hel : e < s.heap.objs.size := Heap.lt_size he
    have hil : it < s.heap.objs.size := by obtain ⟨_, q, _⟩ := hit; exact Heap.lt_size q
    have hea : e ≠ a := fun z => by
      obtain ⟨o, ho, hcl, _⟩ := p
      rw [← z, he] at ho
      cases ho
      exact absurd (show Value.type "enumerate" = Value.type "tuple" from hcl) (by decide +kernel)
    have hia : it ≠ a := fun z => by
      obtain ⟨o, ho, hcl, _⟩ := p
      obtain ⟨o2, ho2, hc2, _⟩ := id hit
      rw [← z, ho2] at ho
      cases ho
      rw [hc2] at hcl
      exact absurd hcl (by decide +kernel)
    have hlt : i < its.toArray.size := by
      have := (List.getElem?_eq_some_iff.mp hu).1
      simpa using this
    refine wpAny_pyNext_enum_itemD (draws_tuple (A := X.A.in1) (I.ok.hd hc) it a its.toArray) he ⟨hit, p, hia⟩ hlt hne (by simp [hne, hea]) fun x' h' tk hPx ho st' hT hsz hk => ?_
    have hxu : x' = u := by
      have h2 : its[i]? = some x' := by simpa using hPx
      rw [hu] at h2; cases h2; rfl
    subst hxu
    have hit' := st'.1
    refine ⟨_, rfl, wpAny_letOwnedTupleGo_enum (s := { s with heap := h', toks := tk + 1 }) ho fun h'' he' sb => ?_⟩
    have hT2 : h''.get? s.heap.objs.size = some { cls := .type "tuple", data := .seq #[.int i tk, x'] } := (sb.2 _ (Nat.ne_of_gt hel)).trans hT
    have new : ObjOk X.prog X.w (upd H s.heap.objs.size (.tup [.int (i : Nat), x])) h'' s.heap.objs.size (.tup [.int (i : Nat), x]) :=
      ⟨by show 2 ≤ sizeLine; decide, [.int i tk, x'], .cons ⟨_, rfl⟩ (.cons ru .nil), ⟨_, hT2, rfl, _, rfl⟩⟩
    have I1 : Inv X pins σ (upd H s.heap.objs.size (.tup [.int (i : Nat), x])) { s with heap := h'', toks := tk + 1 } :=
      I.turnedNew (ch := [e, it]) (fun b ob hb q => (sb.2 b (fun z => hb (by simp [z]))).trans (hk b ob (fun z => hb (by simp [z])) (fun z => hb (by simp [z])) q)) hf (Nat.le_refl _) new
    refine ⟨.ref s.heap.objs.size, _, I1, rfl, ⟨_, x, rfl, I.hok.fresh (Nat.le_refl _), rfl, fun ys hy => by rw [I.tuple_inj hy hq]; exact hx⟩, ⟨⟨x', ?_⟩, hit'.at fun o q => (sb.2 it (Ne.symm hne)).trans q, hne⟩, fun b hb => ?_⟩
    · have e1 : ((i + 1 : Nat) : Int) = (i : Int) + 1 := by omega
      rw [e1]; exact he'
    · have hb' : b < s.heap.objs.size := by
        have e' : b = e ∨ b = it := by simpa using hb
        rcases e' with z | z
        · rw [z]; exact hel
        · rw [z]; exact hil
      rw [upd_ne (Nat.ne_of_lt hb')]
      exact (hf b hb).1
  done := by
    intro X hP hw hK hc i pins s σ H E I hf st hg
    subst hP hw hK
    obtain ⟨⟨old, he⟩, hit, hne⟩ := st
    obtain ⟨xs, hq, hx⟩ := hg
    obtain ⟨its, rv, p, hz⟩ := I.tuple hq
    obtain ⟨f0, f1, f2, f3, f4, f5⟩ := hf it (by simp)
    have hl := rv.length
    exact wpAny_pyNext_enum_endD (draws_end (A := X.A.in1) (I.ok.hd hc) it a its.toArray i (by simp; omega)) he ⟨rfl, hit, p⟩ fun h' eb => ⟨rfl, I.turned (t' := s.toks) (fun b o hb q => eb b o hb q) f0 f1 f3 f4 f5⟩
  self := fun A i s Q E st h => let ⟨⟨_, he⟩, _⟩ := st; wpAny_pyIter_enum he h
def iEnumT (K : PySem.W.Frag) (ta : TA) : TI := fun σ H R => ta σ H fun vs H1 => ∃ a xs, vs = [.ref a] ∧ SqT K H1 a xs ∧ R (Itq K a) H1
theorem pi_enumT {X : Cx} {e : Expr} {ta : TA} {p pos tpos : Pos} {elts : List Expr} {kk : Nat} (hg : Gl X "enumerate") (hm : X.mg "enumerate" = none) (ha : PA X [e] ta) (hs : starEach [e] X.env = [(false, eval e X.env)] := by rfl) :
    PI X (.Tuple elts kk tpos) (.Call (.Name "enumerate" p) [e] [] pos) (iEnumT X.K ta) := by
  refine ⟨fun pins s σ H R I h => ?_⟩
  refine Call_ (ld_blt I hg hm boot_enumerate (PyProof.Rows.callWith_type1 (thn (ha.run pos pins s σ H _ I h) fun us s1 ⟨vs, H1, I1, r1, q1⟩ => ?_) hs rfl))
  obtain ⟨a, xs, ex, hq, q⟩ := q1
  subst ex
  cases r1 with
  | cons r rr =>
    cases rr
    cases r
    obtain ⟨its, rv, p', hz⟩ := I1.tuple hq
    refine call_enumerate_tuple p' fun h' he hit hsz hk => wpAny_pyIter_enum he ?_
    have I2 : Inv X pins σ H1 { s1 with heap := h' } := I1.kept (t' := s1.toks) hk
    refine ⟨s1.heap.objs.size + 1, [s1.heap.objs.size + 1, s1.heap.objs.size], _, _, H1, rfl, I2, turn_enumT a (s1.heap.objs.size + 1) s1.heap.objs.size, ⟨⟨.none, he⟩, hit, Nat.succ_ne_self _⟩, fun b hb => ?_, q⟩
    have e' : b = s1.heap.objs.size + 1 ∨ b = s1.heap.objs.size := by simpa using hb
    have hle : s1.heap.objs.size ≤ b := by
      rcases e' with z | z
      · rw [z]; exact Nat.le_add_right _ _
      · rw [z]; exact Nat.le_refl _
    exact I1.fpOk hle (I1.hok.fresh hle)
theorem ri_enumT {K : Frg} {B H : Hp} {ρ : List Addr} {xs : List PyData} {p : Addr} {vs : List V} (hs : SqT K B p vs) (d : DpAll K B vs xs) : RI K B ρ H (Itq K p) (itE xs) := by
  intro B2 ρ2 κ2 H2 w2 g2 i
  have hs2 : SqT K H2 p vs := sqt_up g2.ex (sqt_up w2.s hs)
  have hl := dpa_len d
  refine ⟨fun h => ⟨vs, hs2, by rw [hl]; exact h⟩, fun h => ?_⟩
  obtain ⟨w, hw, r⟩ := dpa_get d (getLt h)
  refine ⟨⟨vs, w, hs2, hw⟩, fun x H3 hy => ?_⟩
  obtain ⟨T, x0, rfl, hT, rfl, f⟩ := hy
  have e := (f vs hs2).symm.trans hw
  cases e
  obtain ⟨u4, g4, r4⟩ := new_tup g2 hT (ds := [.int (i : Nat), xs[i]'h]) (.cons (.int _) (.cons (dp_up w2.s _ _ r) .nil))
  exact ⟨_, _, u4, g4, r4, _, getLt h, rfl⟩
/-- enumerate of a tuple of data -/
def aEnumT (fa : AA) : AI := fun δ κ R => fa δ κ fun as κ1 => match as with
  | [.d (.tuple xs)] => R (itE xs) κ1
  | _ => False
theorem ia_enumT {K : Frg} {X : Cx} {ta : TA} {fa : AA} {a : Expr} {elts : List Expr} {kk : Nat} {tpos q pos : Pos} (hg : Gl X "enumerate") (hm : X.mg "enumerate" = none) (ha : PAa K X [a] ta fa) (hs : starEach [a] X.env = [(false, eval a X.env)] := by rfl) (hK : X.K = K := by rfl) :
    PIa K X (.Tuple elts kk tpos) (.Call (.Name "enumerate" q) [a] [] pos) (iEnumT K ta) (aEnumT fa) := by
  obtain ⟨K, Kn, KZ, Ku⟩ := K
  change X.K = K at hK
  subst hK
  exact ⟨pi_enumT hg hm ha.pa hs, fun B ρ δ κ σ H R Q s g hh q => ha.sd _ _ _ _ _ _ _ _ s g hh fun B1 ρ1 κ1 H1 as vs w1 g1 r1 h1 => by
    split at h1
    · obtain ⟨x, rfl, r⟩ := reps1 r1
      obtain ⟨p, vs, rfl, s1, d1⟩ := r.tuple
      exact ⟨p, vs, rfl, sqt_up g1.ex s1, q _ _ _ _ _ _ w1 g1 (ri_enumT s1 d1) h1⟩
    · exact h1.elim⟩
end Ab
set_option Elab.async false
set_option linter.all false
set_option maxRecDepth 100000
set_option maxHeartbeats 4000000
/-! Ab12: calls whose cells may refer to one another -/
namespace Ab
open PySem L2
variable {K : Frg} {B B' B2 H H' H2 : Hp} {ρ ρ' ρ2 : List Addr} {κ κ' : AK} {δ : AD} {σ : L2.St} {p : Addr} {k : Nat} {v x y z : V} {a b c : AV}
def selF {ι : Type} (js : List Nat) : List (ι × AV) → Option (List (ι × AV))
  | [] => some []
  | (g, a) :: r => match selA js a, selF js r with
    | some x, some xs => some ((g, x) :: xs)
    | _, _ => none
def selC (js : List Nat) : Cell → Option Cell
  | .lst xs => match selAs js xs with
    | some ys => some (.lst ys)
    | none => none
  | .tup xs => match selAs js xs with
    | some ys => some (.tup ys)
    | none => none
  | .ins C fs => match selF js fs with
    | some ys => some (.ins C ys)
    | none => none
  | .dA fs => match selF js fs with
    | some ys => some (.dA ys)
    | none => none
  | c => some c
def selKX (js0 : List Nat) (κ : AK) : List Nat → Option AK
  | [] => some []
  | j :: r => match κ[j]?, selKX js0 κ r with
    | some c, some cs => match selC js0 c with
      | some c' => some (c' :: cs)
      | none => none
    | _, _ => none
def backC (js : List Nat) (n : Nat) : Cell → Cell
  | .lst xs => .lst (xs.map (backA js n))
  | .tup xs => .tup (xs.map (backA js n))
  | .ins C fs => .ins C (fs.map fun p => (p.1, backA js n p.2))
  | .dA fs => .dA (fs.map fun p => (p.1, backA js n p.2))
  | c => c
def backKX (js : List Nat) (κ κ' : AK) : AK := backK js κ (κ'.map (backC js κ.length))
@[irreducible] def callX (F : FSp) (E : AX → AK → Prop) (as : List AV) (κ1 : AK) (R : AR) : Prop := ∃ js asl κl, js.Nodup ∧ selAs js as = some asl ∧ selKX js κ1 js = some κl ∧
  F asl κl (fun a κ' => js.length ≤ κ'.length ∧ (κ'.drop js.length).all liveC = true ∧ R (backA js κ1.length a) (backKX js κ1 κ')) (fun x κ' => js.length ≤ κ'.length ∧ (κ'.drop js.length).all liveC = true ∧ E x (backKX js κ1 κ'))
theorem callX_i {F : FSp} {E : AX → AK → Prop} {as : List AV} {κ1 : AK} {R : AR} (h : ∃ js asl κl, js.Nodup ∧ selAs js as = some asl ∧ selKX js κ1 js = some κl ∧
  F asl κl (fun a κ' => js.length ≤ κ'.length ∧ (κ'.drop js.length).all liveC = true ∧ R (backA js κ1.length a) (backKX js κ1 κ')) (fun x κ' => js.length ≤ κ'.length ∧ (κ'.drop js.length).all liveC = true ∧ E x (backKX js κ1 κ'))) : callX F E as κ1 R := by
  unfold callX; exact h
theorem callX_e {F : FSp} {E : AX → AK → Prop} {as : List AV} {κ1 : AK} {R : AR} (h : callX F E as κ1 R) : ∃ js asl κl, js.Nodup ∧ selAs js as = some asl ∧ selKX js κ1 js = some κl ∧
  F asl κl (fun a κ' => js.length ≤ κ'.length ∧ (κ'.drop js.length).all liveC = true ∧ R (backA js κ1.length a) (backKX js κ1 κ')) (fun x κ' => js.length ≤ κ'.length ∧ (κ'.drop js.length).all liveC = true ∧ E x (backKX js κ1 κ')) := by
  unfold callX at h; exact h
theorem selF_ok {ι : Type} {js : List Nat} (hr : ∀ (i j : Nat) (p : Addr), js[i]? = some j → ρ[j]? = some p → ρ'[i]? = some p) : ∀ {fs fsl : List (ι × AV)} {ws : List (ι × V)}, selF js fs = some fsl → RepKs K B ρ fs ws → RepKs K B ρ' fsl ws
  | [], _, _, h, r => by cases h; cases r; exact .nil
  | (g, a) :: fs, _, _, h, r => by
    unfold selF at h
    split at h
    · rename_i x xs e1 e2
      cases h
      cases r with
      | @cons _ q _ qs r1 r2 =>
        refine .cons ⟨r1.1, ?_⟩ (selF_ok hr e2 r2)
        have := selAs_ok (K := K) (B := B) (vs := [q.2]) hr (as := [a]) (asl := [x]) (by unfold selAs; rw [e1]; rfl) (.cons r1.2 .nil)
        cases this with
        | cons z _ => exact z
    · cases h
theorem CellOk.sel {js : List Nat} (hr : ∀ (i j : Nat) (p : Addr), js[i]? = some j → ρ[j]? = some p → ρ'[i]? = some p) {cl cl' : Cell} (h : selC js cl = some cl') (ok : CellOk K B ρ H p cl) : CellOk K B ρ' H p cl' := by
  cases cl with
  | dead => cases h; exact ok
  | ld ys => cases h; exact ok
  | dK ys => cases h; exact ok
  | dT ys => cases h; exact ok
  | lst ys =>
    have h : (match selAs js ys with | some zs => some (Cell.lst zs) | none => none) = some cl' := h
    split at h
    · rename_i zs e; cases h
      obtain ⟨n, ws, r, eH⟩ := ok
      exact ⟨n, ws, selAs_ok hr e r, eH⟩
    · cases h
  | tup ys =>
    have h : (match selAs js ys with | some zs => some (Cell.tup zs) | none => none) = some cl' := h
    split at h
    · rename_i zs e; cases h
      obtain ⟨ws, r, eH⟩ := ok
      exact ⟨ws, selAs_ok hr e r, eH⟩
    · cases h
  | ins C ys =>
    have h : (match selF js ys with | some zs => some (Cell.ins C zs) | none => none) = some cl' := h
    split at h
    · rename_i zs e; cases h
      obtain ⟨n, dx, ws, r, eH⟩ := ok
      exact ⟨n, dx, ws, selF_ok hr e r, eH⟩
    · cases h
  | dA ys =>
    have h : (match selF js ys with | some zs => some (Cell.dA zs) | none => none) = some cl' := h
    split at h
    · rename_i zs e; cases h
      obtain ⟨n, ws, r, eH⟩ := ok
      exact ⟨n, ws, selF_ok hr e r, eH⟩
    · cases h
  | ho o => cases h; exact ok
  | xo φ => cases h; exact ok
  | fk od ws kvs => cases h; exact ok
theorem selKX_get {js0 : List Nat} : ∀ {js : List Nat} {κ κl : AK}, selKX js0 κ js = some κl → κl.length = js.length ∧ ∀ (i j : Nat), js[i]? = some j → ∃ c c', κ[j]? = some c ∧ selC js0 c = some c' ∧ κl[i]? = some c'
  | [], κ, κl, h => by cases h; exact ⟨rfl, fun i j e => by simp at e⟩
  | j :: js, κ, κl, h => by
    unfold selKX at h
    split at h
    · rename_i c cs e1 e2
      split at h
      · rename_i c' hc
        cases h
        obtain ⟨l, f⟩ := selKX_get e2
        refine ⟨by simp [l], fun i j' e => ?_⟩
        cases i with
        | zero => simp at e; subst e; exact ⟨c, c', e1, hc, rfl⟩
        | succ i => obtain ⟨d, d', y1, y2, y3⟩ := f i j' (by simpa using e); exact ⟨d, d', y1, y2, by simpa using y3⟩
      · cases h
    · cases h
theorem sel_okX (g : G K B ρ κ H) {js : List Nat} {κl : AK} (nd : js.Nodup) (hk : selKX js κ js = some κl) : G (Frg.of K.K) B (selR js ρ) κl H := by
  obtain ⟨lk, sel⟩ := selKX_get hk
  have get : ∀ {i : Nat} {p : Addr}, (selR js ρ)[i]? = some p → ∃ j c c', js[i]? = some j ∧ ρ[j]? = some p ∧ κ[j]? = some c ∧ κl[i]? = some c' ∧ selC js c = some c' := fun {i p} h => by
    unfold selR at h
    rw [List.getElem?_map] at h
    obtain ⟨j, hj, e⟩ := Option.map_eq_some_iff.mp h
    obtain ⟨c, c', e1, e2, e3⟩ := sel i j hj
    have lt : j < ρ.length := by rw [g.len]; exact (List.getElem?_eq_some_iff.mp e1).1
    rw [List.getD_eq_getElem?_getD, List.getElem?_eq_getElem lt] at e
    exact ⟨j, c, c', hj, by rw [List.getElem?_eq_getElem lt]; exact congrArg some e, e1, e3, e2⟩
  refine ⟨g.ex, by unfold selR; rw [List.length_map, lk], fun i i' p h1 h2 => ?_, fun i p c h1 h2 => ?_, True.intro⟩
  · obtain ⟨j, _, _, y1, y2, _⟩ := get h1
    obtain ⟨j', _, _, z1, z2, _⟩ := get h2
    have e := g.inj j j' p y2 z2
    subst e
    obtain ⟨a1, b1⟩ := List.getElem?_eq_some_iff.mp y1
    obtain ⟨a2, b2⟩ := List.getElem?_eq_some_iff.mp z1
    exact (List.getElem_inj nd).mp (b1.trans b2.symm)
  · obtain ⟨j, c0, c', y1, y2, y3, y4, y5⟩ := get h1
    rw [h2] at y4; cases y4
    exact (g.at' j p c0 y2 y3).sel (fun i j p h1 h2 => selR_get h1 h2) y5
theorem Reps.back {js : List Nat} {n : Nat} (hrep : ∀ {a : AV} {v : V}, Rep K B ρ a v → Rep K B ρ' (backA js n a) v) : ∀ {as : List AV} {vs : List V}, Reps K B ρ as vs → Reps K B ρ' (as.map (backA js n)) vs
  | _, _, .nil => .nil
  | _, _, .cons h1 h2 => .cons (hrep h1) (Reps.back hrep h2)
theorem RepKs.back {ι : Type} {js : List Nat} {n : Nat} (hrep : ∀ {a : AV} {v : V}, Rep K B ρ a v → Rep K B ρ' (backA js n a) v) : ∀ {as : List (ι × AV)} {vs : List (ι × V)}, RepKs K B ρ as vs → RepKs K B ρ' (as.map fun p => (p.1, backA js n p.2)) vs
  | _, _, .nil => .nil
  | _, _, .cons h1 h2 => .cons ⟨h1.1, hrep h1.2⟩ (RepKs.back hrep h2)
theorem CellOk.back {js : List Nat} {n : Nat} (hrep : ∀ {a : AV} {v : V}, Rep K B ρ a v → Rep K B ρ' (backA js n a) v) {cl : Cell} (ok : CellOk K B ρ H p cl) : CellOk K B ρ' H p (backC js n cl) := by
  cases cl with
  | dead => exact ok
  | ld ys => exact ok
  | dK ys => exact ok
  | dT ys => exact ok
  | lst ys => obtain ⟨n, ws, r, e⟩ := ok; exact ⟨n, ws, Reps.back hrep r, e⟩
  | tup ys => obtain ⟨ws, r, e⟩ := ok; exact ⟨ws, Reps.back hrep r, e⟩
  | ins C ys => obtain ⟨n, dx, ws, r, e⟩ := ok; exact ⟨n, dx, ws, RepKs.back hrep r, e⟩
  | dA ys => obtain ⟨n, ws, r, e⟩ := ok; exact ⟨n, ws, RepKs.back hrep r, e⟩
  | ho o => exact ok
  | xo φ => exact ok
  | fk od ws kvs => exact ok
theorem back_okX (g : G K B ρ κ H) {js : List Nat} {κl : AK} (nd : js.Nodup) (hk : selKX js κ js = some κl) {ρl' : List Addr} (w : Up B (selR js ρ) H B' ρl' H') (g' : G (Frg.of K.K) B' ρl' κ' H') (l : js.length ≤ κ'.length) (lv : (κ'.drop js.length).all liveC = true) :
    Up B ρ H B' (ρ ++ ρl'.drop js.length) H' ∧ G K B' (ρ ++ ρl'.drop js.length) (backKX js κ κ') H' ∧ ∀ {a : AV} {v : V}, Rep K B' ρl' a v → Rep K B' (ρ ++ ρl'.drop js.length) (backA js κ.length a) v := by
  obtain ⟨lk, sel⟩ := selKX_get hk
  have jlt : ∀ {i j : Nat}, js[i]? = some j → j < κ.length := fun h => by
    obtain ⟨c, _, e, _⟩ := sel _ _ h
    exact (List.getElem?_eq_some_iff.mp e).1
  have rl : ∀ {i j : Nat} {p : Addr}, js[i]? = some j → ρ[j]? = some p → ρl'[i]? = some p := fun h hp => w.p _ _ (selR_get h hp)
  have memsel : ∀ {i : Nat} {p : Addr}, ρ[i]? = some p → p ∈ selR js ρ → i ∈ js := fun {i p} hp hm => by
    unfold selR at hm
    obtain ⟨j, hj, e⟩ := List.mem_map.mp hm
    obtain ⟨m, hm⟩ := List.mem_iff_getElem?.mp hj
    have lt := jlt hm
    rw [← g.len] at lt
    rw [List.getD_eq_getElem?_getD, List.getElem?_eq_getElem lt] at e
    have : ρ[j]? = some p := by rw [List.getElem?_eq_getElem lt]; exact congrArg some e
    rw [g.inj i j p hp this]; exact hj
  have newne : ∀ {i m : Nat} {p : Addr}, ρ[i]? = some p → (ρl'.drop js.length)[m]? = some p → False := fun {i m p} h1 h2 => by
    rw [List.getElem?_drop] at h2
    by_cases hj : i ∈ js
    · obtain ⟨q, hq⟩ := List.mem_iff_getElem?.mp hj
      have := g'.inj q _ p (rl hq h1) h2
      have := (List.getElem?_eq_some_iff.mp hq).1
      omega
    · have hm : js.length + m < κ'.length := by rw [← g'.len]; exact (List.getElem?_eq_some_iff.mp h2).1
      have ok := g'.at' _ p _ h2 (List.getElem?_eq_getElem hm)
      have live : liveC κ'[js.length + m] = true := List.all_eq_true.mp lv _ (mem_of_get (by rw [List.getElem?_drop]; exact List.getElem?_eq_getElem hm))
      have bn : B' p = none ∨ ∃ ws, H' p = some (.tup ws) := by
        cases hc : κ'[js.length + m] with
        | dead => rw [hc] at live; cases live
        | ld ys => rw [hc] at ok; exact .inl ok.1
        | lst ys => rw [hc] at ok; exact .inl ok.1
        | tup ys => rw [hc] at ok; obtain ⟨vs, _, e⟩ := ok; exact .inr ⟨vs, e⟩
        | dK ys => rw [hc] at ok; exact .inl ok.1
        | dT ys => rw [hc] at ok; exact .inl ok.1
        | ins C ys => rw [hc] at ok; exact .inl ok.1
        | dA ys => rw [hc] at ok; exact .inl ok.1
        | ho o => rw [hc] at ok; exact .inl ok.1
        | xo φ => rw [hc] at ok; exact .inl ok.1
        | fk od ws kvs => rw [hc] at ok; exact .inl ok.1
      have hi : i < κ.length := by rw [← g.len]; exact (List.getElem?_eq_some_iff.mp h1).1
      have hn := (g.at' i p _ h1 (List.getElem?_eq_getElem hi)).nn
      cases hH : H p with
      | none => exact hn hH
      | some o =>
        have fo : B p = none ∨ IsT o := by
          rcases bn with bn | ⟨ws, e⟩
          · exact .inl (w.s.free bn)
          · cases hB : B p with
            | none => exact .inl rfl
            | some u =>
              have z1 := g.ex p u hB
              rw [hH] at z1; cases z1
              have z2 := g'.ex p _ (w.s p _ hB)
              rw [e] at z2
              exact .inr ⟨ws, (Option.some.inj z2).symm⟩
        exact (w.f p o hH fo fun z => hj (memsel h1 z)).2.2 (mem_of_get h2)
  have w2 : Up B ρ H B' (ρ ++ ρl'.drop js.length) H' := ⟨w.s, fun _ _ h => get_app h, fun p o h1 h2 h3 => by
    have hp : p ∉ selR js ρ := fun z => by
      unfold selR at z
      obtain ⟨j, hj, e⟩ := List.mem_map.mp z
      obtain ⟨m, hm⟩ := List.mem_iff_getElem?.mp hj
      have lt := jlt hm
      rw [← g.len] at lt
      rw [List.getD_eq_getElem?_getD, List.getElem?_eq_getElem lt] at e
      exact h3 (by rw [← e]; exact List.getElem_mem lt)
    obtain ⟨y1, y2, y3⟩ := w.f p o h1 h2 hp
    refine ⟨y1, y2, fun z => ?_⟩
    rcases List.mem_append.mp z with z | z
    · exact h3 z
    · exact y3 (List.mem_of_mem_drop z)⟩
  have hrep : ∀ {a : AV} {v : V}, Rep K B' ρl' a v → Rep K B' (ρ ++ ρl'.drop js.length) (backA js κ.length a) v := fun {a v} r => by
    cases a with
    | d y => exact r
    | r y => exact r
    | c j =>
      obtain ⟨p, hp, rfl⟩ := r
      show Rep K B' _ (match js[j]? with | some k => .c k | none => .c (κ.length + (j - js.length))) _
      cases e : js[j]? with
      | some k =>
        have lt := jlt e
        rw [← g.len] at lt
        have e2 := rl e (List.getElem?_eq_getElem lt)
        rw [hp] at e2; cases e2
        exact ⟨_, get_app (List.getElem?_eq_getElem lt), rfl⟩
      | none =>
        have hj : js.length ≤ j := List.getElem?_eq_none_iff.mp e
        refine ⟨p, ?_, rfl⟩
        rw [← g.len, List.getElem?_append_right (by omega), List.getElem?_drop]
        have : js.length + (ρ.length + (j - js.length) - ρ.length) = j := by omega
        rw [this]; exact hp
  have lb : (putK js (κ'.map (backC js κ.length)) κ).length = ρ.length := by rw [putK_len, g.len]
  refine ⟨w2, ⟨g'.ex, ?_, fun i j p h1 h2 => ?_, fun i p c h1 h2 => ?_, K.up _ _ _ _ _ _ w2.n g.z⟩, hrep⟩
  · rw [backKX, backK_eq, List.length_append, List.length_append, lb, List.length_drop, List.length_drop, List.length_map, g'.len]
  · by_cases hi : i < ρ.length
    · rw [List.getElem?_append_left hi] at h1
      by_cases hj : j < ρ.length
      · rw [List.getElem?_append_left hj] at h2
        exact g.inj i j p h1 h2
      · rw [List.getElem?_append_right (by omega)] at h2
        exact (newne h1 h2).elim
    · rw [List.getElem?_append_right (by omega)] at h1
      by_cases hj : j < ρ.length
      · rw [List.getElem?_append_left hj] at h2
        exact (newne h2 h1).elim
      · rw [List.getElem?_append_right (by omega)] at h2
        rw [List.getElem?_drop] at h1 h2
        have := g'.inj _ _ p h1 h2
        omega
  · rw [backKX, backK_eq] at h2
    by_cases hi : i < ρ.length
    · rw [List.getElem?_append_left hi] at h1
      rw [List.getElem?_append_left (by omega)] at h2
      by_cases hj : i ∈ js
      · obtain ⟨q, hq⟩ := List.mem_iff_getElem?.mp hj
        have hq' : q < κ'.length := Nat.lt_of_lt_of_le (List.getElem?_eq_some_iff.mp hq).1 l
        rw [putK_at nd hq (by rw [List.getElem?_map, List.getElem?_eq_getElem hq']; rfl) (jlt hq)] at h2
        cases h2
        exact (g'.at' q p _ (rl hq h1) (List.getElem?_eq_getElem hq')).back hrep
      · rw [putK_ne hj] at h2
        have ok := g.at' i p c h1 h2
        have hp : p ∉ selR js ρ := fun z => hj (memsel h1 z)
        refine ok.up w2.g (fun bn => ?_) fun o ho => ?_
        · obtain ⟨o, ho⟩ := Option.ne_none_iff_exists'.mp ok.nn
          exact (w.f p o ho (.inl bn) hp).2.1.imp id fun ⟨ws, z⟩ => ⟨ws, by rw [ho, z]⟩
        · cases bp : B p with
          | none => exact (w.f p o ho (.inl bp) hp).1
          | some u =>
            have e1 := g.ex p u bp
            rw [ho] at e1; cases e1
            exact g'.ex p o (w.s p o bp)
    · rw [List.getElem?_append_right (by omega), List.getElem?_drop] at h1
      rw [List.getElem?_append_right (by omega), lb, List.getElem?_drop, List.getElem?_map] at h2
      obtain ⟨c0, hc0, rfl⟩ := Option.map_eq_some_iff.mp h2
      exact (g'.at' _ p c0 h1 hc0).back hrep
def aCallX (F : FSp) (E : AX → AK → Prop) (fa : AA) : AE := fun δ κ R => fa δ κ fun as κ1 => callX F E as κ1 R
theorem callX_sd {F : FSp} {E : XK} {E' : AX → AK → Prop} {as : List AV} {vs : List V} {R : AR} {Q : VK} (g : G K B ρ κ H) (r : Reps K B ρ as vs) (h : callX F E' as κ R) (q : Nx K B ρ H R Q) (hx : ∀ B' ρ' κ' H' x cls d, G K B' ρ' κ' H' → E' x κ' → RepX K B' x cls d → E cls d H') : spA K F vs H Q E := by
  obtain ⟨js, asl, κl, nd, e1, e2, hF⟩ := callX_e h
  refine ⟨B, selR js ρ, κl, asl, _, _, sel_okX g nd e2, selAs_ok (fun i j p h1 h2 => selR_get h1 h2) e1 r, hF, ?_, ?_⟩
  · rintro B' ρ' κ' H' a v w2 g2 r2 ⟨l, lv, hR⟩
    obtain ⟨w3, g3, r3⟩ := back_okX g nd e2 w2 g2 l lv
    exact q _ _ _ _ _ _ w3 g3 (r3 r2) hR
  · rintro B' ρ' κ' H' x cls d w2 g2 r2 ⟨l, lv, hR⟩
    obtain ⟨w3, g3, r3⟩ := back_okX g nd e2 w2 g2 l lv
    exact hx _ _ _ _ _ _ _ g3 hR r2
theorem se_callX {F : FSp} {ta : TA} {fa : AA} {E : XK} {E' : AX → AK → Prop} (ha : SA K ta fa) (hx : ∀ B' ρ' κ' H' x cls d, G K B' ρ' κ' H' → E' x κ' → RepX K B' x cls d → E cls d H') : SE K (tCall (spA K F) [] E ta) (aCallX F E' fa) := fun B ρ δ κ σ H R Q s g h q =>
  ha B ρ δ κ σ H _ _ s g h fun B1 ρ1 κ1 H1 as vs w1 g1 r1 hcw => by
    show spA K F (vs ++ []) H1 Q E
    rw [List.append_nil]
    exact callX_sd g1 r1 hcw (q.later w1) hx
section
variable {X : Cx} {e e2 : Expr} {t u : TE} {f f2 : AE} {pos : Pos}
variable {l : Nat} {fa : Addr} {fd : FuncData} {ps : List Str} {F : FSp} {x : Str} {q pos : Pos} {es : List Expr} {ta : TA} {ga : AA}
theorem ea_callX (Fo : FnOk X.prog X.w X.K X.mg X.base CX0 l fa fd ps (spA K F)) (hr : Room l X.A) (hg : Gl X x) (hm : X.mg x = some (.ref fa)) (hk : PySem.W.keepIn X.K (.ref fa) = true) (hb : Binds X.K fd ps []) (ha : PAa K X (e :: es) ta ga)
    (hdb : (x == ("__debug__" : Str)) = false := by decide) (he : starEach (e :: es) X.env = (false, eval e X.env) :: starEach es X.env := by rfl) (hpl : (backTo pos (starEach es X.env)).any (·.1) = false := by rfl) (hK : X.K = K := by rfl) :
    PEa K X (.Call (.Name x q) (e :: es) [] pos) (tCall (spA K F) [] E0 ta) (aCallX F (fun _ _ => False) ga) := by
  obtain ⟨K, Kn, KZ, Ku⟩ := K
  change X.K = K at hK
  subst hK
  exact ⟨pe_call Fo hr hg hm hk hb .nil pass0 ha.pa hdb he hpl, se_callX ha.sd fun _ _ _ _ _ _ _ _ h => h.elim⟩
end
end Ab
set_option Elab.async false
set_option linter.all false
set_option maxRecDepth 100000
set_option maxHeartbeats 4000000
/-! Ab13: find, split, all, ord, int of a text, a text several times, a list taken apart -/
namespace Ab
open PySem L2
variable {K : Frg} {B B' B2 H H' H2 : Hp} {ρ ρ' ρ2 : List Addr} {κ κ' : AK} {δ : AD} {σ : L2.St} {p : Addr} {k : Nat} {v x y z : V} {a b c : AV}
variable {X : Cx} {e e2 : Expr} {t u : TE} {f f2 : AE} {pos : Pos}
/-- s.find(x, i) -/
def aFind3 : AV → List AV → AK → AR → Prop := fun a as κ R => match a, as with
  | .d (.str s), [.d (.str t), .d (.int i)] => R (.d (.int (Txt.find3 s t i))) κ
  | _, _ => False
theorem ma_find3 : MtA K X "str.find" (fun x xs H Q => ∃ (a b : Str) (i : Int), x = .str a ∧ xs = [.str b, .int i] ∧ Q (.int (Txt.find3 a b i)) H) aFind3 := by
  refine ⟨mt_find3, fun B ρ κ H x xs a as R Q g rx rs h q => ?_⟩
  unfold aFind3 at h
  split at h
  · obtain ⟨y, z, rfl, r1, r2⟩ := reps2 rs
    cases rx.str; cases r1.str; cases r2.int
    exact ⟨_, _, _, rfl, rfl, q.at0 g (rp_int _) h⟩
  · exact h.elim
theorem dpa_strs_of : ∀ ys : List Str, DpAll K B (ys.map V.str) (ys.map .str)
  | [] => .nil
  | y :: ys => .cons (.str y) (dpa_strs_of ys)
/-- s.split(x): data -/
def aSplit : AV → List AV → AK → AR → Prop := fun a as κ R => match a, as with
  | .d (.str s), [.d (.str t)] => (t.length == 0) = false ∧ s.length + 2 ≤ sizeLine ∧ R (.d (.list ((Txt.split s t).map .str))) κ
  | _, _ => False
theorem ma_split : MtA K X "str.split" (fun x xs H Q => ∃ a b, x = .str a ∧ xs = [.str b] ∧ (b.length == 0) = false ∧ a.length + 2 ≤ sizeLine ∧ rNewStrs (Txt.split a b) H Q) aSplit := by
  refine ⟨mt_split, fun B ρ κ H x xs a as R Q g rx rs h q => ?_⟩
  unfold aSplit at h
  split at h
  · obtain ⟨y, rfl, r1⟩ := reps1 rs
    cases rx.str; cases r1.str
    refine ⟨_, _, rfl, rfl, h.1, h.2.1, fun p hp => ?_⟩
    obtain ⟨u4, g4, r4⟩ := new_lst g hp (dpa_strs_of _)
    exact q _ _ _ _ _ _ u4 g4 r4 h.2.2
  · exact h.elim
theorem dpa_bools : ∀ {bs : List Bool} {vs : List V}, DpAll K B vs (bs.map .bool) → vs = bs.map V.bl
  | [], _, h => by cases h; rfl
  | y :: ys, _, h => by
    cases h with
    | cons h1 h2 =>
      cases h1
      rw [dpa_bools h2]; rfl
/-- all([..]) of truths -/
def aAll : List AV → AK → AR → Prop := fun as κ R => match as with
  | [.d (.list ds)] => ∃ bs : List Bool, ds = bs.map .bool ∧ R (.d (.bool (bs.all id))) κ
  | _ => False
theorem ca_all (hc : X.calm = true) (hK : X.K = K := by rfl) : CallA K X (.builtin "all") (rAll K) aAll := by
  obtain ⟨K, Kn, KZ, Ku⟩ := K
  change X.K = K at hK
  subst hK
  refine ⟨cr_all hc, fun B ρ κ H xs as R Q g rs h q => ?_⟩
  unfold aAll at h
  split at h
  · obtain ⟨x, rfl, r⟩ := reps1 rs
    obtain ⟨bs, rfl, h⟩ := h
    obtain ⟨p, vs, rfl, s1, d1⟩ := of_listG g r
    obtain rfl := dpa_bools d1
    exact ⟨p, bs, rfl, s1, q.at0 g (rp_bl _) h⟩
  · exact h.elim
/-- ord(c) -/
def aOrd : List AV → AK → AR → Prop := fun as κ R => match as with
  | [.d (.str s)] => ∃ c, s.cps.toList = [c] ∧ R (.d (.int (c : Nat))) κ
  | _ => False
theorem ca_ord : CallA K X (.builtin "ord") (fun xs H Q => ∃ x, xs = [.str x] ∧ x.length = 1 ∧ Q (.int (x.cps.getD 0 0 : Nat)) H) aOrd := by
  refine ⟨call_ord, fun B ρ κ H xs as R Q g rs h q => ?_⟩
  unfold aOrd at h
  split at h
  · obtain ⟨x, rfl, r⟩ := reps1 rs
    obtain ⟨c, e, h⟩ := h
    rw [str_one e] at r
    refine ⟨⟨#[c]⟩, by rw [r.str], rfl, q.at0 g (rp_int _) h⟩
  · exact h.elim
/-- int of a text of digits -/
def aIntS : List AV → AK → AR → Prop := fun as κ R => match as with
  | [.d (.str s)] => ∃ n, PySem.intText? s = some n ∧ s.length ≤ 640 ∧ R (.d (.int n)) κ
  | _ => False
theorem ca_intS : CallA K X (.type "int") (fun xs H Q => ∃ a n, xs = [.str a] ∧ PySem.intText? a = some n ∧ a.length ≤ 640 ∧ Q (.int n) H) aIntS := by
  refine ⟨call_int_str, fun B ρ κ H xs as R Q g rs h q => ?_⟩
  unfold aIntS at h
  split at h
  · obtain ⟨x, rfl, r⟩ := reps1 rs
    obtain ⟨n, e, hl, h⟩ := h
    cases r.str
    exact ⟨_, n, rfl, e, hl, q.at0 g (rp_int _) h⟩
  · exact h.elim
/-- a text n times -/
def aMulT : AO := fun a b κ R => match a, b with
  | .d (.str s), .d (.int n) => s.length ≤ 1000 ∧ 1 < n ∧ n ≤ 1000 ∧ R (.d (.str (Txt.mul s n))) κ
  | _, _ => False
def rMulT : R2 := fun x y H Q => ∃ s n, x = .str s ∧ y = .int n ∧ s.length ≤ 1000 ∧ 1 < n ∧ n ≤ 1000 ∧ Q (.str (Txt.mul s n)) H
theorem op_mulT : OpR X (binaryOp .Mult) rMulT := by
  intro pins s σ H x y v u Q I rx ry h
  obtain ⟨z, n, rfl, rfl, h1, h2, h3, q⟩ := h
  obtain ⟨t, rfl⟩ := rx
  obtain ⟨t2, rfl⟩ := ry
  refine PySem.SB.mul ⟨?_, fun _ _ => ?_, fun _ _ => ?_⟩ fun t' k => ⟨.str _, H, I.tok k, ⟨t', rfl⟩, q⟩
  · rw [Bool.or_eq_false_iff]
    exact ⟨decide_eq_false (by omega), decide_eq_false (by omega)⟩
  · have : (1000 : Int) ≤ (2 ^ 63 - 1) / n := by
      rw [Int.le_ediv_iff_mul_le (by omega)]; omega
    omega
  · have : z.length * n.toNat ≤ 1000 * 1000 := Nat.mul_le_mul h1 (by omega)
    have hs : (1000000 : Nat) ≤ sizeLine := by decide
    unfold Builtin.Str.tooLong
    exact decide_eq_false (by omega)
theorem oa_mulT : OpA K X (binaryOp .Mult) rMulT aMulT := by
  refine ⟨op_mulT, ?_⟩
  intro B ρ κ H x y a b R Q g rx ry h q
  unfold aMulT at h
  split at h
  · exact ⟨_, _, rx.str, ry.int, h.1, h.2.1, h.2.2.1, q.at0 g (rp_str _) h.2.2.2⟩
  · exact h.elim
/-- a list is taken apart -/
def aGUnl (n : Nat) (gs : AGs) : AG := fun a δ κ R => match a with
  | .d (.list ds) => ds.length = n ∧ gs (ds.map .d) δ κ R
  | _ => False
theorem ga_unl {es : List Expr} {tgs : TGs} {ags : AGs} {kk : Nat} {n : Nat} (hc : X.calm = true) (h : PGsa K X es tgs ags) (hn : (assignEach es X.env).length = n := by rfl) (hst : (assignEach es X.env).findIdx? (·.1) = none := by rfl) (hK : X.K = K := by rfl) : PGa K X (.Tuple es kk pos) (gUnl K n tgs) (aGUnl n ags) := by
  obtain ⟨K, Kn, KZ, Ku⟩ := K
  change X.K = K at hK
  subst hK
  exact ⟨pg_unl hc h.pg hn hst, fun B ρ δ κ σ H a v R Q s g r hh q => by
    unfold aGUnl at hh
    split at hh
    · obtain ⟨p, vs, rfl, s1, d1⟩ := of_listG g r
      exact ⟨p, vs, rfl, s1, by rw [dpa_len d1]; exact hh.1, h.sd _ _ _ _ _ _ _ _ _ _ s g (Reps.all d1) hh.2 q⟩
    · exact hh.elim⟩
end Ab
set_option Elab.async false
set_option linter.all false
set_option maxRecDepth 100000
set_option maxHeartbeats 4000000
/-! Dra: the source of draws of the table laws, names -/
namespace Tab
open PySem L2 Ab Com
variable {K : PySem.W.Frag}
/-! ### the state -/
def stK (ns : List Int) (i a k : Int) (b : Bool) : Cell := .ld [.list (ns.map .int), .int i, .int a, .int k, .bool b, .int 500]
def isSt (c : Cell) : Prop := ∃ ns i a k b, c = stK ns i a k b ∧ 0 ≤ i
theorem isSt.cl {c : Cell} (h : isSt c) : clC c = true ∧ liveC c = true := by
  obtain ⟨ns, i, a, k, b, rfl, _⟩ := h
  exact ⟨rfl, rfl⟩
theorem isSt.ok {c : Cell} (h : isSt c) (m : Nat) : okC m c = true := by
  obtain ⟨ns, i, a, k, b, rfl, _⟩ := h; rfl
theorem isSt.fz {s : Cell} {k : Nat} {d : PyData} (h : isSt s) : isSt (fzC k d s) := by
  obtain ⟨ns, i, a, k, b, rfl, hi⟩ := h; exact ⟨ns, i, a, k, b, rfl, hi⟩
theorem sel0t {s : Cell} {κr : AK} (h : isSt s) : selK [0] (s :: κr) = some [s] := by
  show (if clC s = true then some [s] else none) = _
  rw [if_pos h.cl.1]
theorem cl1t {s : Cell} (h : isSt s) : ([s] : AK).all clC = true := List.all_eq_true.mpr fun c hc => by rw [List.mem_singleton.mp hc]; exact h.cl.1
def F__law_state : FSp := fun as κ R _ => ∃ ns : List Int, as = [.d (.list (ns.map .int))] ∧ κ = [] ∧ ∀ s, isSt s → R (.c 0) [s]
abbrev N__law_state : List Str := ["script"]
def a__law_state (K : PySem.W.Frag) : AS :=
  (aRet (aLst (aCons (aCB (aListOf false) (aCons (aVar 0) aNil)) (aCons (aC (.d (.int 0))) (aCons (aC (.d (.int 0))) (aCons (aC (.d (.int 0))) (aCons (aC (.d (.bool false))) (aCons (aC (.d (.int 500))) aNil))))))))
theorem len__law_state : ∀ as κ R E', F__law_state as κ R E' → as.length = (["script"] : List Str).length := by
  rintro as κ R E' ⟨ns, rfl, _⟩; rfl
theorem rd__law_state : ∀ as κ R E', F__law_state as κ R E' → a__law_state K (endsA K κ.length R) (startA N__law_state as) κ := by
  rintro as κ R E' ⟨ns, rfl, rfl, h⟩
  exact ⟨(show 6 ≤ sizeLine by decide), _, _, GhR.refl (Nat.zero_le _), h _ ⟨ns, 0, 0, 0, false, rfl, by decide⟩⟩
def F__law_draw : FSp := fun as κ R _ => ∃ s m, as = [.c 0, .d (.int m)] ∧ κ = [s] ∧ isSt s ∧ 0 < m ∧ m < 1073741824 ∧ ∀ v s', isSt s' → 0 ≤ v → v < m → R (.d (.int v)) [s']
abbrev N__law_draw : List Str := ["state", "limit", "cell", "digit", "mixed"]
def a__law_draw (K : PySem.W.Frag) : AS :=
  (aCut (aIfS (aB (aOp aEq (aOp aIx (aVar 0) (aC (.d (.int 3)))) (aC (.d (.int 0))))) (aSeq (aIfS (aB (aOp aGe (aOp aIx (aVar 0) (aC (.d (.int 1)))) (aCB aLen (aCons (aOp aIx (aVar 0) (aC (.d (.int 0)))) aNil)))) (aRet (aC (.d (.int 0)))) aNext) (aSeq (aSet 2 (aOp aIx (aOp aIx (aVar 0) (aC (.d (.int 0)))) (aOp aIx (aVar 0) (aC (.d (.int 1)))))) (aCut (aIfS (aB (aOp aLt (aVar 2) (aC (.d (.int 0))))) (aSet 2 (aOp aSub (aUn aNeg (aC (.d (.int 1)))) (aVar 2))) aNext) (aSeq (aAsg (aOp aAdd (aOp aIx (aVar 0) (aC (.d (.int 1)))) (aC (.d (.int 1)))) (aGSub (aVar 0) (aC (.d (.int 1))) aSetL)) (aSeq (aAsg (aVar 2) (aGSub (aVar 0) (aC (.d (.int 2))) aSetL)) (aSeq (aAsg (aOp aGe (aVar 2) (aOp aPow (aC (.d (.int 10))) (aC (.d (.int 18))))) (aGSub (aVar 0) (aC (.d (.int 4))) aSetL)) (aSeq (aAsg (aC (.d (.int 6))) (aGSub (aVar 0) (aC (.d (.int 3))) aSetL)) (aIfS (aTru (aOp aIx (aVar 0) (aC (.d (.int 4))))) (aAsg (aC (.d (.int 60))) (aGSub (aVar 0) (aC (.d (.int 3))) aSetL)) aNext)))))))) aNext) (aSeq (aAsg (aOp aSub (aOp aIx (aVar 0) (aC (.d (.int 3)))) (aC (.d (.int 1)))) (aGSub (aVar 0) (aC (.d (.int 3))) aSetL)) (aSeq (aIfS (aTru (aOp aIx (aVar 0) (aC (.d (.int 4))))) (aSeq (aSet 3 (aOp aMod (aCB aIntOf (aCons (aOp aIx (aVar 0) (aC (.d (.int 2)))) aNil)) (aVar 1))) (aSeq (aAsg (aOp aDiv (aOp aIx (aVar 0) (aC (.d (.int 2)))) (aVar 1)) (aGSub (aVar 0) (aC (.d (.int 2))) aSetL)) (aCut (aIfS (aB (aOp aEq (aOp aIx (aVar 0) (aC (.d (.int 2)))) (aC (.d (.int 0))))) (aAsg (aC (.d (.int 0))) (aGSub (aVar 0) (aC (.d (.int 3))) aSetL)) aNext) (aRet (aVar 3))))) aNext) (aSeq (aSet 4 (aOp aMod (aCB aIntOf (aCons (aOp aAdd (aOp aAdd (aOp aMul (aOp aIx (aVar 0) (aC (.d (.int 2)))) (aC (.d (.int 48271)))) (aOp aMul (aOp aIx (aVar 0) (aC (.d (.int 3)))) (aC (.d (.int 69621))))) (aC (.d (.int 7)))) aNil)) (aC (.d (.int 2147483647))))) (aSeq (aSet 4 (aOp aMod (aCB aIntOf (aCons (aOp aAdd (aOp aAdd (aOp aMul (aVar 4) (aVar 4)) (aOp aMul (aOp aIx (aVar 0) (aC (.d (.int 2)))) (aC (.d (.int 31))))) (aOp aIx (aVar 0) (aC (.d (.int 3))))) aNil)) (aC (.d (.int 1000003))))) (aRet (aOp aMod (aCB aIntOf (aCons (aVar 4) aNil)) (aVar 1))))))))
theorem len__law_draw : ∀ as κ R E', F__law_draw as κ R E' → as.length = (["state", "limit"] : List Str).length := by
  rintro as κ R E' ⟨s, m, rfl, _⟩; rfl
theorem m_small (a b : Int) (hb : 0 < b) (hb2 : b ≤ 2147483647) : -(2 ^ 64) < a % b ∧ a % b < 2 ^ 64 := by
  have h1 := Int.emod_nonneg a (show b ≠ 0 by omega)
  have h2 := Int.emod_lt_of_pos a hb
  omega
theorem rd__law_draw : ∀ as κ R E', F__law_draw as κ R E' → a__law_draw K (endsA K κ.length R) (startA N__law_draw as) κ := by
  rintro as κ R E' ⟨s, m, rfl, rfl, ⟨ns, i, a, k, b, rfl, hi⟩, h0, h1, h⟩
  have fin : ∀ v ns i a k b, 0 ≤ i → 0 ≤ v → v < m → (endsA K [stK ns i a k b].length R).rt (.d (.int v)) [stK ns i a k b] := fun v ns i a k b hi hv hm => ⟨_, _, GhR.refl (Nat.le_refl _), h _ _ ⟨ns, i, a, k, b, rfl, hi⟩ hv hm⟩
  have cp18 : CPow 10 18 := ⟨by decide, by decide, by decide⟩
  have hd : CDiv 0 m := ⟨h0, by omega⟩
  refine ⟨fun δ κ => ∃ i a k b c, δ = [some (.c 0), some (.d (.int m)), c, none, none] ∧ κ = [stK ns i a k b] ∧ 0 ≤ i, ?_, ?_⟩
  · refine ⟨_, rfl, bsel_i (fun hx => ?_) fun _ => ⟨i, a, k, b, _, rfl, rfl, hi⟩⟩
    refine ⟨_, rfl, _, rfl, bsel_i (fun hl => ⟨_, _, GhR.refl (Nat.le_refl _), h _ _ ⟨ns, i, a, k, b, rfl, hi⟩ (Int.le_refl _) h0⟩) fun hl => ?_⟩
    have hl' : i < ns.length := by
      have : ¬ (((ns.map PyData.int).length : Nat) : Int) ≤ i := of_decide_eq_false hl
      rw [List.length_map] at this; omega
    obtain ⟨v, hv⟩ := at_ints hi hl'
    refine ⟨_, rfl, _, rfl, _, hv, ?_⟩
    refine ⟨fun δ κ => ∃ v, δ = [some (.c 0), some (.d (.int m)), some (.d (.int v)), none, none] ∧ κ = [stK ns i a k b], bsel_i (fun _ => ⟨_, rfl, rfl⟩) fun _ => ⟨_, rfl, rfl⟩, ?_⟩
    rintro δ κ ⟨v, rfl, rfl⟩ _
    refine ⟨_, rfl, _, rfl, _, rfl, cp18, _, rfl, _, rfl, _, rfl, bsel_i (fun _ => ?_) fun _ => ?_⟩
    · exact ⟨_, rfl, _, _, _, _, _, rfl, rfl, by omega⟩
    · exact ⟨_, _, _, _, _, rfl, rfl, by omega⟩
  · rintro δ κ ⟨i, a, k, b, c, rfl, rfl, hi⟩ _
    refine ⟨_, rfl, _, rfl, _, rfl, ?_⟩
    refine bsel_i (fun hb => ?_) fun hb => ?_
    · refine ⟨_, rfl, h0, _, rfl, ⟨h0, by omega⟩, _, rfl, ?_⟩
      refine ⟨fun δ κ => ∃ c x k', δ = [some (.c 0), some (.d (.int m)), c, some (.d (.int (a % m))), x] ∧ κ = [stK ns i (a / m) k' b], ?_, ?_⟩
      · refine ⟨_, rfl, bsel_i (fun _ => ⟨_, rfl, _, _, _, rfl, rfl⟩) fun _ => ⟨_, _, _, rfl, rfl⟩⟩
      · rintro δ κ ⟨c, x, k', rfl, rfl⟩ _
        exact fin _ _ _ _ _ _ hi (Int.emod_nonneg _ (by omega)) (Int.emod_lt_of_pos _ h0)
    · exact ⟨_, rfl, .inr (by decide), _, rfl, .inr (by decide), (by decide : (0 : Int) < 2147483647), .inl (m_small _ _ (by decide) (by decide)), _, rfl, .inr (by decide), _, rfl, (by decide : (0 : Int) < 1000003), h0, fin _ _ _ _ _ _ hi (Int.emod_nonneg _ (by omega)) (Int.emod_lt_of_pos _ h0)⟩
theorem state_w {ns : List Int} {κ : AK} {R : AR} {E : AX → AK → Prop} (h : ∀ s, isSt s → R (.c κ.length) (κ ++ [s])) : callW F__law_state E [.d (.list (ns.map .int))] κ R :=
  callW_i ⟨[], _, _, .nil, rfl, rfl, ns, rfl, rfl, fun s hs => ⟨Nat.zero_le _, cl1t hs, List.all_eq_true.mpr fun c hc => (by have hc : c ∈ [s] := hc; rw [List.mem_singleton.mp hc]; exact hs.cl.2), h s hs⟩⟩
theorem draw_w {s : Cell} {κr : AK} {m : Int} {E : AX → AK → Prop} {R : AR} (hs : isSt s) (h0 : 0 < m) (h1 : m < 1073741824) (k : ∀ v s', isSt s' → 0 ≤ v → v < m → R (.d (.int v)) (s' :: κr)) : callW F__law_draw E [.c 0, .d (.int m)] (s :: κr) R :=
  callW_i ⟨[0], _, _, by decide, rfl, sel0t hs, s, m, rfl, rfl, hs, h0, h1, fun v s' hs' hv0 hv => ⟨Nat.le_refl _, cl1t hs', rfl, k v s' hs' hv0 hv⟩⟩
/-! ### a name -/
theorem first_low : ∀ j : Nat, j < 26 → ∃ c, (tl "abcdefghijklmnopqrstuvwxyz")[j]? = some c ∧ low c := by
  have h : tl "abcdefghijklmnopqrstuvwxyz" = (List.range 26).map (97 + ·) := by decide +kernel
  intro j hj
  refine ⟨97 + j, by rw [h, List.getElem?_map, List.getElem?_range hj]; rfl, ?_⟩
  unfold low; omega
theorem other_run : ∀ j : Nat, j < 36 → ∃ c, (tl ("abcdefghijklmnopqrstuvwxyz" ++ "0123456789" : Str))[j]? = some c ∧ run c := by
  intro j hj
  have e : ("abcdefghijklmnopqrstuvwxyz" ++ "0123456789" : Str) = alnum := by decide +kernel
  rw [e]
  have la : (tl alnum).length = 36 := by rw [← tl_len]; exact alnum_len
  have hj' : j < (tl alnum).length := by omega
  exact ⟨(tl alnum)[j], List.getElem?_eq_getElem hj', alnum_mem.mp (List.getElem_mem hj')⟩
theorem ab_len : ("abcdefghijklmnopqrstuvwxyz" : Str).length = 26 := by decide +kernel
theorem dg_len : ("0123456789" : Str).length = 10 := by decide +kernel
theorem ot_len : ("abcdefghijklmnopqrstuvwxyz" ++ "0123456789" : Str).length = 36 := by decide +kernel
/-- a low sign and up to 11 more -/
def nmL (z : Str) : Prop := ∃ c r, tl z = c :: r ∧ low c ∧ (∀ x ∈ r, run x) ∧ r.length ≤ 11
theorem words_no_digit : ∀ w ∈ wordsL, (tl w).getLast? ≠ some 49 := by decide +kernel
theorem words_len7 : ∀ w ∈ wordsL, w.length ≤ 6 := by decide +kernel
def F__law_name : FSp := fun as κ R _ => ∃ s : Cell, as = [.c 0] ∧ κ = [s] ∧ isSt s ∧ ∀ z s', isSt s' → isName z → R (.d (.str z)) [s']
abbrev N__law_name : List Str := ["state", "first", "other", "number", "name", "tail"]
def a__law_name (K : PySem.W.Frag) : AS :=
  (aSeq (aSet 1 (aC (.d (.str "abcdefghijklmnopqrstuvwxyz")))) (aSeq (aSet 2 (aOp aAdd (aVar 1) (aC (.d (.str "0123456789"))))) (aSeq (aSet 3 (aCall F__law_draw (fun _ _ => False) (aCons (aVar 0) (aCons (aC (.d (.int 134784))) aNil)))) (aSeq (aSet 4 (aOp aIx (aVar 1) (aOp aMod (aCB aIntOf (aCons (aOp aDiv (aVar 3) (aC (.d (.int 4)))) aNil)) (aC (.d (.int 26)))))) (aSeq (aSet 5 (aOp aAdd (aOp aAdd (aOp aIx (aVar 2) (aOp aMod (aCB aIntOf (aCons (aOp aDiv (aVar 3) (aC (.d (.int 104)))) aNil)) (aC (.d (.int 36))))) (aOp aIx (aVar 2) (aOp aMod (aCB aIntOf (aCons (aOp aDiv (aVar 3) (aC (.d (.int 3744)))) aNil)) (aC (.d (.int 36)))))) (aOp aIx (aVar 2) (aOp aMod (aCB aIntOf (aCons (aVar 3) aNil)) (aC (.d (.int 35))))))) (aCut (aIfS (aB (aOp aEq (aCall F__law_draw (fun _ _ => False) (aCons (aVar 0) (aCons (aC (.d (.int 9))) aNil))) (aC (.d (.int 8))))) (aSet 4 (aSl (aOp aAdd (aVar 4) (aOp aMulT (aVar 5) (aC (.d (.int 4))))) aNoPart (aPart (aOp aAdd (aC (.d (.int 4))) (aCall F__law_draw (fun _ _ => False) (aCons (aVar 0) (aCons (aC (.d (.int 9))) aNil))))))) (aSet 4 (aOp aAdd (aVar 4) (aSl (aVar 5) aNoPart (aPart (aOp aMod (aCB aIntOf (aCons (aVar 3) aNil)) (aC (.d (.int 4))))))))) (aSeq (aIfS (aB (aOp (aIn id) (aVar 4) (aLstD (aCons (aC (.d (.str "pact"))) (aCons (aC (.d (.str "end"))) (aCons (aC (.d (.str "choice"))) (aCons (aC (.d (.str "both"))) (aCons (aC (.d (.str "loop"))) (aCons (aC (.d (.str "use"))) aNil))))))))) (aRet (aOp aAdd (aVar 4) (aC (.d (.str "1"))))) aNext) (aRet (aVar 4)))))))))
theorem len__law_name : ∀ as κ R E', F__law_name as κ R E' → as.length = (["state"] : List Str).length := by
  rintro as κ R E' ⟨s, rfl, _⟩; rfl
theorem cut_to (s : Str) (n : Nat) : tl (cutS s none (some (n : Int))) = (tl s).take n := by
  show ((tl s).drop 0).take (HT.sIx s.length s.length (some (n : Int)) - 0) = _
  rw [HT.sIx_nat, List.drop_zero, Nat.sub_zero, tl_len]
  by_cases h : n ≤ (tl s).length
  · rw [Nat.min_eq_left h]
  · rw [Nat.min_eq_right (by omega), List.take_of_length_le (Nat.le_refl _), List.take_of_length_le (by omega)]
theorem mul4 {t : Str} (h : t.length = 3) : tl (Txt.mul t 4) = tl t ++ tl t ++ tl t ++ tl t := by
  unfold Txt.mul
  rw [if_neg (by decide), if_neg (by rw [h]; decide)]
  show ((List.replicate 4 t.cps).foldl (· ++ ·) #[]).toList = _
  simp [List.replicate]
theorem nm_take {z : Str} {c : Nat} {r : List Nat} {n : Nat} (e : tl z = (c :: r).take (n + 1)) (hc : low c) (hr : ∀ x ∈ r, run x) (hn : n ≤ 11) : nmL z := by
  refine ⟨c, r.take n, by rw [e]; rfl, hc, fun x hx => hr x (List.mem_of_mem_take hx), ?_⟩
  rw [List.length_take]; omega
theorem rd__law_name : ∀ as κ R E', F__law_name as κ R E' → a__law_name K (endsA K κ.length R) (startA N__law_name as) κ := by
  rintro as κ R E' ⟨s, rfl, rfl, hs, h⟩
  have fin : ∀ s z, isSt s → isName z → (endsA K [s].length R).rt (.d (.str z)) [s] := fun s z h1 h2 => ⟨_, _, GhR.refl (Nat.le_refl _), h _ _ h1 h2⟩
  refine ⟨by rw [ab_len, dg_len]; decide, ?_⟩
  refine draw_w hs (by decide) (by decide) fun v s1 hs1 h0 h1 => ?_
  have ix : ∀ (w b : Int), 0 < b → ∃ j : Nat, w % b = (j : Int) ∧ (j : Int) < b := fun w b hb => by
    have h2 := Int.emod_nonneg w (show b ≠ 0 by omega)
    have h3 := Int.emod_lt_of_pos w hb
    exact ⟨(w % b).toNat, by omega, by omega⟩
  obtain ⟨j1, e1, l1⟩ := ix (v / 4) 26 (by decide)
  obtain ⟨c1, g1, hc1⟩ := first_low j1 (by omega)
  obtain ⟨j2, e2, l2⟩ := ix (v / 104) 36 (by decide)
  obtain ⟨c2, g2, hc2⟩ := other_run j2 (by omega)
  obtain ⟨j3, e3, l3⟩ := ix (v / 3744) 36 (by decide)
  obtain ⟨c3, g3, hc3⟩ := other_run j3 (by omega)
  obtain ⟨j4, e4, l4⟩ := ix v 35 (by decide)
  obtain ⟨c4, g4, hc4⟩ := other_run j4 (by omega)
  obtain ⟨j5, e5, l5⟩ := ix v 4 (by decide)
  have ol : ("abcdefghijklmnopqrstuvwxyz" ++ "0123456789" : Str).length ≤ sizeLine := by rw [ot_len]; decide
  refine ⟨⟨by decide, by decide⟩, (by decide : (0 : Int) < 26), c1, by rw [ab_len]; decide, by show atI _ (v / 4 % 26) = _; rw [e1]; exact at_nat g1, ?_⟩
  refine ⟨⟨by decide, by decide⟩, (by decide : (0 : Int) < 36), c2, ol, by show atI _ (v / 104 % 36) = _; rw [e2]; exact at_nat g2, ⟨by decide, by decide⟩, (by decide : (0 : Int) < 36), c3, ol, by show atI _ (v / 3744 % 36) = _; rw [e3]; exact at_nat g3, (show 2 ≤ sizeLine by decide), (by decide : (0 : Int) < 35), c4, ol, by show atI _ (v % 35) = _; rw [e4]; exact at_nat g4, (show 3 ≤ sizeLine by decide), ?_⟩
  have htl : tl ((⟨#[c2]⟩ : Str) ++ ⟨#[c3]⟩ ++ ⟨#[c4]⟩) = [c2, c3, c4] := by rw [tl_app, tl_app]; rfl
  have hlen : ((⟨#[c2]⟩ : Str) ++ ⟨#[c3]⟩ ++ ⟨#[c4]⟩).length = 3 := by rw [tl_len, htl]; rfl
  generalize ((⟨#[c2]⟩ : Str) ++ ⟨#[c3]⟩ ++ ⟨#[c4]⟩) = tail at htl hlen
  have hrun : ∀ x ∈ [c2, c3, c4], run x := fun x hx => by
    simp only [List.mem_cons, List.mem_nil_iff, or_false] at hx
    rcases hx with rfl | rfl | rfl <;> assumption
  refine ⟨fun δ κ => ∃ s z x1 x2 x3 x5, δ = [some (.c 0), x1, x2, x3, some (.d (.str z)), x5] ∧ κ = [s] ∧ isSt s ∧ nmL z, ?_, ?_⟩
  · refine draw_w hs1 (by decide) (by decide) fun v2 s2 hs2 h20 h21 => bsel_i (fun _ => ?_) fun _ => ?_
    · have hm := mul4 hlen
      have hml : (Txt.mul tail 4).length = 12 := by rw [tl_len, hm, htl]; rfl
      refine ⟨by omega, by decide, by decide, ?_, draw_w hs2 (by decide) (by decide) fun v3 s3 hs3 h30 h31 => ⟨?_, s3, _, _, _, _, _, rfl, rfl, hs3, ?_⟩⟩
      · show 1 + (Txt.mul tail 4).length ≤ sizeLine
        rw [hml]; decide
      · rw [tl_len, tl_app, List.length_append, ← tl_len (Txt.mul tail 4), hml]
        show 1 + 12 ≤ sizeLine; decide
      · obtain ⟨n, hn⟩ : ∃ n : Nat, 4 + v3 = ((n + 1 : Nat) : Int) := ⟨(3 + v3).toNat, by omega⟩
        rw [hn]
        refine nm_take (c := c1) (r := tl (Txt.mul tail 4)) (n := n) ?_ hc1 (fun x hx => ?_) (by omega)
        · rw [cut_to, tl_app]; rfl
        · rw [hm, htl] at hx
          simp only [List.mem_append, List.mem_cons, List.mem_nil_iff, or_false] at hx
          rcases hx with ((hx | hx) | hx) | hx <;> exact hrun x (by simpa using hx)
    · refine ⟨(by decide : (0 : Int) < 4), by rw [hlen]; decide, ?_, s2, _, _, _, _, _, rfl, rfl, hs2, ?_⟩
      · show 1 + (cutS tail none (some (v % 4))).length ≤ sizeLine
        rw [e5, tl_len (cutS _ _ _), cut_to, htl]
        show 1 + (List.take j5 [c2, c3, c4]).length ≤ sizeLine
        rw [List.length_take]
        exact Nat.le_trans (show 1 + min j5 3 ≤ 4 by omega) (by decide)
      · show nmL ((⟨#[c1]⟩ : Str) ++ cutS tail none (some (v % 4)))
        rw [e5]
        refine nm_take (c := c1) (r := (tl tail).take j5) (n := j5) ?_ hc1 (fun x hx => hrun x (by rw [← htl]; exact List.mem_of_mem_take hx)) (by omega)
        rw [tl_app, cut_to]
        show c1 :: (tl tail).take j5 = c1 :: ((tl tail).take j5).take j5
        rw [List.take_take, Nat.min_self]
  · rintro δ κ ⟨s, z, x1, x2, x3, x5, rfl, rfl, hs, hz⟩ _
    obtain ⟨c, r, ez, hc, hr, hrl⟩ := hz
    refine ⟨(show 6 ≤ sizeLine by decide), rfl, rfl, bsel_i (fun hw => ?_) fun hw => ?_⟩
    · have hw : inD (.str z) (wordsL.map .str) = true := hw
      rw [inD_str] at hw
      have hl := words_len7 z (of_decide_eq_true hw)
      have hl1 : ("1" : Str).length = 1 := by decide +kernel
      have e1 : tl "1" = [49] := by decide +kernel
      have hrl6 : r.length ≤ 5 := by rw [tl_len, ez, List.length_cons] at hl; omega
      refine ⟨by rw [hl1]; exact sl100 (by omega), fin _ _ hs ⟨⟨c, r ++ [49], by rw [tl_app, ez, e1]; rfl, hc, fun x hx => ?_, by rw [List.length_append]; show r.length + 1 ≤ 11; omega⟩, fun hm => ?_⟩⟩
      · rcases List.mem_append.mp hx with q | q
        · exact hr x q
        · rw [List.mem_singleton.mp q]; exact .inr ⟨by decide, by decide⟩
      · refine words_no_digit _ hm ?_
        rw [tl_app, e1, List.getLast?_append]; rfl
    · have hw : inD (.str z) (wordsL.map .str) = false := hw
      rw [inD_str] at hw
      exact fin _ _ hs ⟨⟨c, r, ez, hc, hr, hrl⟩, of_decide_eq_false hw⟩
theorem name_tw {s : Cell} {κr : AK} {E : AX → AK → Prop} {R : AR} (hs : isSt s) (k : ∀ z s', isSt s' → isName z → R (.d (.str z)) (s' :: κr)) : callW F__law_name E [.c 0] (s :: κr) R :=
  callW_i ⟨[0], _, _, by decide, rfl, sel0t hs, s, rfl, rfl, hs, fun z s' hs' hb => ⟨Nat.le_refl _, cl1t hs', rfl, k z s' hs' hb⟩⟩
end Tab
set_option Elab.async false
set_option linter.all false
set_option maxRecDepth 100000
set_option maxHeartbeats 4000000
/-! Ab14: dicts whose keys are tuples, sorted -/
namespace Ab
open PySem L2 PyProof.Rows PyProof.Rows.G PySem.W
/-! ### keys as rows of numbers and signs -/
def kI (k : List L2.Key) : List (Int ⊕ List Nat) := k.map fun
  | .inl n => .inl n
  | .inr s => .inr s.cps.toList
/-- one shape: which items are texts -/
def okSh (shape : Nat → Bool) : Nat → List L2.Key → Prop
  | _, [] => True
  | i, .inl _ :: r => shape i = false ∧ okSh shape (i + 1) r
  | i, .inr _ :: r => shape i = true ∧ okSh shape (i + 1) r
def kLt (a b : List L2.Key) : Bool := lexLt itemOrd (kI a) (kI b)
def SrtKs (ks : List (List L2.Key)) : Prop := ks.Pairwise fun a b => kLt b a = false
theorem items_of {shape : Nat → Bool} : ∀ {k : List L2.Key} {i : Nat} {its : List Value}, Vals (k.map kV) its → okSh shape i k → tupItems shape i its = some (kI k)
  | [], _, _, h, _ => by cases h; rfl
  | .inl n :: r, i, _, h, hs => by
    cases h with
    | cons h1 h2 =>
      obtain ⟨t, rfl⟩ := h1
      show (if shape i = true then none else (tupItems shape (i + 1) _).map (Sum.inl n :: ·)) = _
      rw [if_neg (by rw [hs.1]; exact Bool.false_ne_true), items_of h2 hs.2]; rfl
  | .inr s :: r, i, _, h, hs => by
    cases h with
    | cons h1 h2 =>
      obtain ⟨t, rfl⟩ := h1
      show (if shape i = true then (tupItems shape (i + 1) _).map (Sum.inr s.cps.toList :: ·) else none) = _
      rw [if_pos hs.1, items_of h2 hs.2]; rfl
/-- a key tuple in the heap -/
def KtAt (h : Heap) (k : List L2.Key) (b : Addr) : Prop := ∃ its, Vals (k.map kV) its ∧ IsTup h b its.toArray
theorem KtAt.keep {h h' : Heap} {k : List L2.Key} {b : Addr} (x : KtAt h k b) (q : ∀ b o, h.get? b = some o → h'.get? b = some o) : KtAt h' k b := let ⟨its, r, t⟩ := x; ⟨its, r, t.keeps q⟩
theorem ktAt_of {P : Program} {w : World} {H : Hp} {h : Heap} {k : List L2.Key} {b : Addr} (ok : HOk P w H h) (hb : H b = some (.tup (k.map kV))) : KtAt h k b := by
  obtain ⟨_, its, rv, t⟩ := (show ObjOk P w H h b (.tup (k.map kV)) from ok b _ hb)
  exact ⟨its, rv, t⟩
theorem keyC_of {h : Heap} {b : Addr} {shape : Nat → Bool} {k : List L2.Key} (hb : KtAt h k b) (hs : okSh shape 0 k) : tupKeyC h shape (.ref b) = some (kI k) := by
  obtain ⟨its, rv, o, ho, hc, n, hd⟩ := hb
  unfold tupKeyC tupKey isTupObj
  simp only [ho, hc, hd]
  rw [if_pos (by simp)]
  exact items_of rv hs
theorem tupOf_of {h : Heap} {b : Addr} {shape : Nat → Bool} {k : List L2.Key} (hb : KtAt h k b) (hs : okSh shape 0 k) (hne : k ≠ []) : ∃ f, TupOf h shape (.ref b) f := by
  obtain ⟨its, rv, o, ho, hc, n, hd⟩ := hb
  cases k with
  | nil => exact absurd rfl hne
  | cons x r =>
    cases rv with
    | @cons _ f _ us h1 h2 =>
      refine ⟨f, b, o, _, n, rfl, ho, hc, hd, by simp, fun h0 => ?_, fun h0 => ?_⟩
      · cases x with
        | inl z => obtain ⟨t, rfl⟩ := h1; exact ⟨z, t, rfl⟩
        | inr z => rw [hs.1] at h0; cases h0
      · cases x with
        | inl z => rw [hs.1] at h0; cases h0
        | inr z => obtain ⟨t, rfl⟩ := h1; exact ⟨z, t, rfl⟩
/-- a list of key tuples, with their places -/
def KAts (h : Heap) (shape : Nat → Bool) (l : List (List L2.Key × Addr)) : Prop := ∀ x ∈ l, KtAt h x.1 x.2 ∧ okSh shape 0 x.1 ∧ x.1 ≠ []
theorem KAts.keep {h h' : Heap} {shape : Nat → Bool} {l : List (List L2.Key × Addr)} (x : KAts h shape l) (q : ∀ b o, h.get? b = some o → h'.get? b = some o) : KAts h' shape l := fun y hy => let ⟨a, b, c⟩ := x y hy; ⟨a.keep q, b, c⟩
theorem tups_of {h : Heap} {shape : Nat → Bool} : ∀ {l : List (List L2.Key × Addr)}, KAts h shape l → ∃ fs, TupsOf h shape (l.map fun x => Value.ref x.2) fs
  | [], _ => ⟨[], .nil⟩
  | x :: l, hl => by
    obtain ⟨h1, h2, h3⟩ := hl x (List.mem_cons_self ..)
    obtain ⟨f, hf⟩ := tupOf_of h1 h2 h3
    obtain ⟨fs, hfs⟩ := tups_of (l := l) fun y hy => hl y (List.mem_cons_of_mem _ hy)
    exact ⟨f :: fs, .cons hf hfs⟩
theorem sort_out {h : Heap} {shape : Nat → Bool} {l : List (List L2.Key × Addr)} (hl : KAts h shape l) {arr : Array Keyed} (hp : arr.Perm (pairsOf (l.map fun x => Value.ref x.2))) (hs : SortedToK (tupKindC h shape) arr (pairsOf (l.map fun x => Value.ref x.2)).size) :
    ∃ l' : List (List L2.Key × Addr), l'.Perm l ∧ (arr.map (·.2)).toList = l'.map (fun x => Value.ref x.2) ∧ SrtKs (l'.map (·.1)) := by
  have hz : arr.toList.Perm ((l.map fun x => Value.ref x.2).zip (l.map fun x => Value.ref x.2)) := by rw [← pairsOf_toList]; exact Array.perm_iff_toList_perm.mp hp
  have ez : ∀ l : List (List L2.Key × Addr), l.map (fun x => ((Value.ref x.2, Value.ref x.2) : Value × Value)) = (l.map fun x => Value.ref x.2).zip (l.map fun x => Value.ref x.2) := by
    intro l
    induction l with
    | nil => rfl
    | cons a l ih => rw [List.map_cons, List.map_cons, List.zip_cons_cons, ih]
  obtain ⟨l', p', e'⟩ := perm_lift (fun x : List L2.Key × Addr => ((Value.ref x.2, Value.ref x.2) : Value × Value)) hz l (ez l)
  have hl' : KAts h shape l' := fun x hx => hl x (p'.mem_iff.mp hx)
  refine ⟨l', p', ?_, ?_⟩
  · rw [Array.toList_map, ← e', List.map_map]; rfl
  · unfold SrtKs
    rw [List.pairwise_map, List.pairwise_iff_getElem]
    intro i j hi hj hij
    have hsz : arr.size = l'.length := by
      have := congrArg List.length e'
      rw [List.length_map, Array.length_toList] at this
      exact this.symm
    have h1 := hs i j (Nat.le_of_lt hij) (by rw [← hp.size_eq, hsz]; exact hj)
    have kk : ∀ m (hm : m < l'.length), KK (tupKindC h shape) arr m = kI l'[m].1 := by
      intro m hm
      have em : arr[m]? = some (Value.ref l'[m].2, Value.ref l'[m].2) := by
        rw [← Array.getElem?_toList, ← e', List.getElem?_map, List.getElem?_eq_getElem hm]; rfl
      obtain ⟨h3, h4, _⟩ := hl' l'[m] (List.getElem_mem hm)
      unfold KK
      rw [em]
      show (tupKeyC h shape (.ref l'[m].2)).getD [] = _
      rw [keyC_of h3 h4]; rfl
    rw [kk i hi, kk j hj] at h1
    exact h1
/-! ### sorted(d): a dict with tuple keys -/
section
variable {X : L2.Cx}
def rSortDT : List V → Hp → VK → Prop := fun xs H Q => ∃ (a : Addr) (kvs : List (List L2.Key × V)) (shape : Nat → Bool), xs = [V.ref a] ∧ Rd H a (.dT kvs) ∧ (∀ kv ∈ kvs, okSh shape 0 kv.1 ∧ kv.1 ≠ []) ∧
  ∀ (l : List (List L2.Key × Addr)) p, (l.map (·.1)).Perm (kvs.map (·.1)) → SrtKs (l.map (·.1)) → (∀ x ∈ l, H x.2 = some (.tup (x.1.map kV))) → H p = none → Q (.ref p) (upd H p (.lst (l.map fun x => V.ref x.2)))
theorem cr_sortedDT (hcalm : X.calm = true) : CallR X (.builtin "sorted") rSortDT := by
  intro pins s σ H xs us Q I r h
  obtain ⟨d, kvs, shape, rfl, hd, hsh, q⟩ := h
  obtain ⟨u, rfl, rx⟩ := r.one
  cases rx
  obtain ⟨z, hs, ks, pr, o, es, ep, ho, hx, hdt, he, hn⟩ := (show ObjOk X.prog X.w H s.heap d (.dT kvs) from hd.ok I.hok)
  have l1 : es.size = ks.length := size_of_entries he
  have l2 : kvs.length = ks.length := Paired.length pr
  refine Calls.call_function_entry kind_sorted plain_sorted entry_sorted (args_sorted1 _) ?_
  unfold Builtin.«sorted»
  refine wpAny_bind (m := checkCount "sorted" 1 1 _) (wpAny_pure ?_)
  refine wpAny_bind (PySem.W.kdu_collect (A := X.A.in1) (kdl_raw hs hx hdt) (I.ok.hd hcalm) ho (by omega) fun h' tk acc hk it => ?_)
  have ea : acc.toList = (ks.map fun x => (x.1, x.2.1)).map fun x => Value.ref x.2 := by
    have hl : acc.toList.length = ks.length := by rw [Array.length_toList, it.1]; exact l1
    apply List.ext_getElem?
    intro j
    rw [List.map_map, List.getElem?_map]
    cases hj : acc.toList[j]? with
    | none =>
      have h1 := List.getElem?_eq_none_iff.mp hj
      rw [List.getElem?_eq_none (by omega)]
      rfl
    | some v =>
      obtain ⟨en, hen, hv⟩ := it.2 j v (by rw [← Array.getElem?_toList]; exact hj)
      have qe := entry_at he j
      rw [hen] at qe
      cases hb : ks[j]? with
      | none =>
        rw [hb] at qe
        exact nomatch (show some en = none from qe)
      | some b =>
        rw [hb] at qe
        have e2 : en = entryOfKey (tupleKind (mixKind X.prog X.w)) b := Option.some.inj qe
        rw [hv, e2]
        rfl
  have hks : ks.map (·.1) = kvs.map (·.1) := by
    have : ∀ {l : List (List L2.Key × V)} {m : List (List L2.Key × Addr × Value)}, KT H l m → m.map (·.1) = l.map (·.1) := by
      intro l m q
      induction q with
      | nil => rfl
      | cons h _ ih => rw [List.map_cons, List.map_cons, h.1, ih]
    exact this pr
  have hH : ∀ x ∈ ks, H x.2.1 = some (.tup (x.1.map kV)) := by
    have : ∀ {l : List (List L2.Key × V)} {m : List (List L2.Key × Addr × Value)}, KT H l m → ∀ x ∈ m, H x.2.1 = some (.tup (x.1.map kV)) := by
      intro l m q
      induction q with
      | nil => intro x hx; cases hx
      | cons h _ ih =>
        intro x hx
        rcases List.mem_cons.mp hx with rfl | hx
        · rw [← h.1]; exact h.2.1
        · exact ih x hx
    exact this pr
  generalize hL : (ks.map fun x => (x.1, x.2.1)) = L at ea
  have hLH : ∀ x ∈ L, H x.2 = some (.tup (x.1.map kV)) := fun x hx => by
    rw [← hL] at hx
    obtain ⟨y, hy, rfl⟩ := List.mem_map.mp hx
    exact hH y hy
  have hLk : L.map (·.1) = kvs.map (·.1) := by rw [← hL, List.map_map, ← hks]; rfl
  have I1 : Inv X pins σ H { s with heap := h', toks := tk } := I.kept hk
  have hLA : KAts h' shape L := fun x hx => by
    have hm : x.1 ∈ kvs.map (·.1) := by rw [← hLk]; exact List.mem_map.mpr ⟨x, hx, rfl⟩
    obtain ⟨kv, hkv, e⟩ := List.mem_map.mp hm
    have := hsh kv hkv
    rw [e] at this
    exact ⟨ktAt_of I1.hok (hLH x hx), this⟩
  have hLl : L.length = kvs.length := by
    have := congrArg List.length hLk
    rwa [List.length_map, List.length_map] at this
  have hal : acc.toList.length = L.length := by rw [ea, List.length_map]
  refine wpAny_bind (wpAny_newList ?_ (by have := z; omega))
  have hoL : (h'.push (seqObj "list" acc.toList.toArray 0)).get? h'.objs.size = some (seqObj "list" acc.toList.toArray 0) := Heap.get?_push_size _ rfl
  show wpAny _ _ _ _ _ { s with heap := h'.push (seqObj "list" acc.toList.toArray 0), toks := tk }
  have hLP : KAts (h'.push (seqObj "list" acc.toList.toArray 0)) shape L := hLA.keep fun _ _ e => Heap.get?_push_of_some _ e
  obtain ⟨fs, hfs⟩ := tups_of hLP
  rw [← ea] at hfs
  refine wpAny_bind (wpAny_holding (wpAny_call_entry slot_list_sort ⟨_, hoL, rfl⟩ entry_list_sort
    (list_sort_tups (s := { s with heap := h'.push (seqObj "list" acc.toList.toArray 0), toks := tk }) (shape := shape) hoL hfs (fun v hv => ?_) (by omega) fun st' hp hs _ => ⟨_, rfl, ?_⟩) (args_list_sort _)))
  · rw [ea] at hv
    obtain ⟨x, hx, rfl⟩ := List.mem_map.mp hv
    exact ⟨_, keyC_of (hLP x hx).1 (hLP x hx).2.1⟩
  · have hp2 : (arrOf st').Perm (pairsOf (L.map fun x => Value.ref x.2)) := by rw [← ea]; exact hp
    have hs2 : SortedToK (tupKindC (h'.push (seqObj "list" acc.toList.toArray 0)) shape) (arrOf st') (pairsOf (L.map fun x => Value.ref x.2)).size := by rw [← ea]; exact hs
    obtain ⟨l', g1, g2, g3⟩ := sort_out hLP hp2 hs2
    obtain ⟨e', he'⟩ := sortedHeap_at (vs := acc.toList) (out := (arrOf st').map (·.2)) hoL
    have hl' : l'.length = L.length := g1.length_eq
    have hlen : (l'.map fun x => V.ref x.2).length ≤ sizeLine := by rw [List.length_map, hl', hLl]; exact z
    refine wpAny_pure ⟨_, rfl, .ref h'.objs.size, upd H h'.objs.size (.lst (l'.map fun x => V.ref x.2)), I1.laid (t' := tk) (fun b u e => ?_) (Nat.le_refl _)
      (show ObjOk X.prog X.w _ _ _ (.lst (l'.map fun x => V.ref x.2)) from ⟨hlen, ((arrOf st').map (·.2)).toList, e', by rw [g2]; exact vals_maps _ _ _ fun x _ => rfl, by rw [Array.toArray_toList]; exact he'⟩), rfl,
      q l' _ ((g1.map _).trans (by rw [hLk])) g3 (fun x hx => hLH x (g1.mem_iff.mp hx)) (I1.hok.fresh (Nat.le_refl _))⟩
    have hb : b < h'.objs.size := Heap.lt_size e
    rw [sortedHeap_old (Nat.ne_of_lt hb) (by rw [size_push']; exact Nat.lt_succ_of_lt hb)]
    exact Heap.get?_push_of_some _ e
end
/-! ### tuples become data -/
section
variable {K : Frg} {B B' : Hp} {ρ : List Addr} {κ : AK} {H : Hp} {X : L2.Cx}
theorem dpa_key : ∀ k : List L2.Key, DpAll K B (k.map kV) (k.map keyD)
  | [] => .nil
  | .inl i :: k => .cons (.int i) (dpa_key k)
  | .inr s :: k => .cons (.str s) (dpa_key k)
theorem absorb1 (g : G K B ρ κ H) {b : Addr} {ws : List V} {ds : List PyData} (hb : H b = some (.tup ws)) (d : DpAll K B ws ds) : ∃ B', Up B ρ H B' ρ H ∧ G K B' ρ κ H ∧ Dp K B' (.ref b) (.tuple ds) := by
  cases hB : B b with
  | some o =>
    have e := g.ex b o hB
    rw [hb] at e; cases e
    exact ⟨B, Up.refl, g, .tup (.inl (.inl hB)) d⟩
  | none =>
    have hs : Same B (upd B b (.tup ws)) := same_upd hB
    have u : Up B ρ H (upd B b (.tup ws)) ρ H := ⟨hs, fun _ _ h => h, fun q o h1 h2 h3 => by
      refine ⟨h1, ?_, h3⟩
      by_cases e : q = b
      · subst e
        rw [hb] at h1; cases h1
        exact .inr ⟨ws, rfl⟩
      · rw [upd_ne e]; exact h2⟩
    refine ⟨_, u, ⟨fun q o e => ?_, g.len, g.inj, fun i q c h1 h2 => ?_, K.up _ _ _ _ _ _ u.n g.z⟩, .tup (.inl (.inl upd_same)) (dpa_up hs _ _ d)⟩
    · by_cases e2 : q = b
      · subst e2; rw [upd_same] at e; rw [hb]; exact e
      · rw [upd_ne e2] at e; exact g.ex q o e
    · refine (g.at' i q c h1 h2).up u.g (fun z => ?_) fun _ e => e
      by_cases e2 : q = b
      · subst e2; exact .inr ⟨ws, hb⟩
      · rw [upd_ne e2]; exact .inl z
theorem absorb : ∀ {l : List (List L2.Key × Addr)} {B : Hp}, G K B ρ κ H → (∀ x ∈ l, H x.2 = some (.tup (x.1.map kV))) → ∃ B', Up B ρ H B' ρ H ∧ G K B' ρ κ H ∧ DpAll K B' (l.map fun x => V.ref x.2) (l.map fun x => PyData.tuple (x.1.map keyD))
  | [], B, g, _ => ⟨B, Up.refl, g, .nil⟩
  | x :: l, B, g, h => by
    obtain ⟨B1, u1, g1, d1⟩ := absorb1 g (h x (List.mem_cons_self ..)) (dpa_key x.1)
    obtain ⟨B2, u2, g2, d2⟩ := absorb (l := l) g1 fun y hy => h y (List.mem_cons_of_mem _ hy)
    exact ⟨B2, u1.trans u2, g2, .cons (dp_up u2.s _ _ d1) d2⟩
theorem dpks_keys {κ' : Type} {kvs : List (κ' × PyData)} {ws : List (κ' × V)} (h : DpKs K B kvs ws) : ws.map (·.1) = kvs.map (·.1) := by
  unfold DpKs at h
  induction h with
  | nil => rfl
  | cons h _ ih => rw [List.map_cons, List.map_cons, ih, h.1]
theorem dpa_ints' : ∀ ns : List Int, DpAll K B (ns.map V.int) (ns.map .int)
  | [] => .nil
  | n :: ns => .cons (.int n) (dpa_ints' ns)
theorem dpa_ints_eq : ∀ {ns : List Int} {vs : List V}, DpAll K B vs (ns.map .int) → vs = ns.map V.int
  | [], _, h => by cases h; rfl
  | n :: ns, _, h => by
    cases h with
    | cons h1 h2 => cases h1; rw [dpa_ints_eq h2]; rfl
theorem dpa_strs_eq : ∀ {ys : List Str} {vs : List V}, DpAll K B vs (ys.map .str) → vs = ys.map V.str
  | [], _, h => by cases h; rfl
  | n :: ns, _, h => by
    cases h with
    | cons h1 h2 => cases h1; rw [dpa_strs_eq h2]; rfl
/-- what sorted makes of a list of data -/
def SortD (ds : List PyData) (R : PyData → Prop) : Prop :=
  (∃ ns : List Int, ds = ns.map .int ∧ ns.length < 64 ∧ ∀ ns' : List Int, ns'.Perm ns → ns'.Pairwise (· ≤ ·) → R (.list (ns'.map .int))) ∨
  ∃ xs : List Str, ds = xs.map .str ∧ xs.length < 64 ∧ ∀ ys : List Str, ys.Perm xs → sortedS ys = true → R (.list (ys.map .str))
/-- sorted(..): numbers, texts, a dict with tuple keys -/
def aSort : List AV → AK → AR → Prop := fun as κ R => match as with
  | [.d (.list ds)] => SortD ds fun x => R (.d x) κ
  | [.c k] => match κ[k]? with
    | some (.ld ds) => SortD ds fun x => R (.d x) κ
    | some (.dT kvs) => ∃ shape, (∀ kv ∈ kvs, okSh shape 0 kv.1 ∧ kv.1 ≠ []) ∧ ∀ ys : List (List L2.Key), ys.Perm (kvs.map (·.1)) → SrtKs ys → R (.d (.list (ys.map fun k => .tuple (k.map keyD)))) κ
    | _ => False
  | _ => False
def rSort3 (K : PySem.W.Frag) : List V → Hp → VK → Prop := fun xs H Q => (rSorted K xs H Q ∨ rSortedS K xs H Q) ∨ rSortDT xs H Q
theorem sortD_ok {Q : VK} {R : AR} {ds : List PyData} {vs : List V} {p : Addr} (g : G K B ρ κ H) (s1 : SqL K H p vs) (d1 : DpAll K B vs ds) (h : SortD ds fun x => R (.d x) κ) (q : Nx K B ρ H R Q) : rSorted K [.ref p] H Q ∨ rSortedS K [.ref p] H Q := by
  rcases h with ⟨ns, rfl, hl, h⟩ | ⟨xs, rfl, hl, h⟩
  · have := dpa_ints_eq d1
    subst this
    refine .inl ⟨p, ns, rfl, s1, hl, fun ns' p' hp hs hn => ?_⟩
    obtain ⟨u, g2, r⟩ := new_lst g hn (dpa_ints' (K := K) (B := B) ns')
    exact q _ _ _ _ _ _ u g2 r (h ns' hp hs)
  · have := dpa_strs_eq d1
    subst this
    refine .inr ⟨p, xs, rfl, s1, hl, fun ys p' hp hs hn => ?_⟩
    obtain ⟨u, g2, r⟩ := new_lst g hn (dpa_strs_of (K := K) (B := B) ys)
    exact q _ _ _ _ _ _ u g2 r (h ys hp hs)
theorem ca_sort (hc : X.calm = true) (hK : X.K = K := by rfl) : CallA K X (.builtin "sorted") (rSort3 K) aSort := by
  obtain ⟨K, Kn, KZ, Ku⟩ := K
  change X.K = K at hK
  subst hK
  refine ⟨callr_or (callr_or cr_sorted cr_sortedS) (cr_sortedDT hc), fun B ρ κ H xs as R Q g rs h q => ?_⟩
  unfold aSort at h
  split at h
  · obtain ⟨x, rfl, r⟩ := reps1 rs
    obtain ⟨p, vs, rfl, s1, d1⟩ := of_listG g r
    exact .inl (sortD_ok g s1 d1 h q)
  · rename_i k
    obtain ⟨x, rfl, r⟩ := reps1 rs
    obtain ⟨p, hp, rfl⟩ := r
    split at h
    · rename_i ds ek
      obtain ⟨p', hp', _, vs, r, eH⟩ := g.cell ek
      rw [hp] at hp'; cases hp'
      exact .inl (sortD_ok g (.inl (.inl eH)) r h q)
    · rename_i kvs ek
      obtain ⟨shape, hsh, h⟩ := h
      obtain ⟨p', hp', _, ws, r, eH⟩ := g.cell ek
      rw [hp] at hp'; cases hp'
      have hk := dpks_keys r
      refine .inr ⟨p, ws, shape, rfl, .inl eH, fun kv hkv => ?_, fun l p2 h1 h2 h3 hn => ?_⟩
      · have hm : kv.1 ∈ kvs.map (·.1) := by rw [← hk]; exact List.mem_map.mpr ⟨kv, hkv, rfl⟩
        obtain ⟨kv', h1, h2⟩ := List.mem_map.mp hm
        rw [← h2]; exact hsh kv' h1
      · obtain ⟨B1, u1, g1, d1⟩ := absorb g h3
        obtain ⟨u2, g2, r2⟩ := new_lst g1 hn d1
        refine q _ _ _ _ _ _ (u1.trans u2) g2 r2 ?_
        have := h (l.map (·.1)) (h1.trans (by rw [hk])) h2
        rw [List.map_map] at this
        exact this
    · exact h.elim
  · exact h.elim
end
end Ab
set_option Elab.async false
set_option linter.all false
set_option maxRecDepth 100000
set_option maxHeartbeats 4000000
/-! Ab15: dicts whose keys are tuples: {}, in, d[k], d[k] = v; a tuple that is always a cell; lists of cells -/
namespace Ab
open PySem L2
variable {K : Frg} {B B' B2 H H' H2 : Hp} {ρ ρ' ρ2 : List Addr} {κ κ' : AK} {δ : AD} {σ : L2.St} {p : Addr} {k : Nat} {v x y z : V} {a b c : AV}
variable {X : Cx} {e e2 : Expr} {t u : TE} {f f2 : AE} {pos : Pos}
section
variable {ι : Type} [DecidableEq ι]
def valT (kvs : List (ι × PyData)) (k : ι) : Option PyData := (kvs.find? fun kv => decide (kv.1 = k)).map (·.2)
def putT (kvs : List (ι × PyData)) (k : ι) (v : PyData) : List (ι × PyData) :=
  if (kvs.any fun kv => decide (kv.1 = k)) = true then kvs.map (fun kv => if kv.1 = k then (kv.1, v) else kv) else kvs ++ [(k, v)]
theorem valT_pos {k k' : ι} {d : PyData} {r : List (ι × PyData)} (h : k' = k) : valT ((k', d) :: r) k = some d := by simp [valT, List.find?_cons, h]
theorem valT_neg {k k' : ι} {d : PyData} {r : List (ι × PyData)} (h : k' ≠ k) : valT ((k', d) :: r) k = valT r k := by simp [valT, List.find?_cons, h]
theorem dpkt_val {kvs : List (ι × PyData)} {ws : List (ι × V)} {k : ι} {d : PyData} (h : DpKs K B kvs ws) : valT kvs k = some d → ∃ v, valV ws k = some v ∧ Dp K B v d := by
  unfold DpKs at h
  induction h with
  | nil => intro e; cases e
  | @cons p q ps qs h1 h2 ih =>
    obtain ⟨k1, d1⟩ := p
    obtain ⟨k2, v2⟩ := q
    obtain ⟨e, r⟩ := h1
    have e : k1 = k2 := e
    subst e
    intro hd
    by_cases hk : k1 = k
    · rw [valT_pos hk] at hd
      cases hd
      exact ⟨v2, valV_pos hk, r⟩
    · rw [valT_neg hk] at hd
      obtain ⟨v, h3, h4⟩ := ih hd
      exact ⟨v, by rw [valV_neg (p := (k1, v2)) hk]; exact h3, h4⟩
theorem dpkt_any {kvs : List (ι × PyData)} {ws : List (ι × V)} {k : ι} (h : DpKs K B kvs ws) : (kvs.any fun kv => decide (kv.1 = k)) = ws.any fun kv => decide (kv.1 = k) := by
  unfold DpKs at h
  induction h with
  | nil => rfl
  | @cons p q ps qs h1 h2 ih => rw [List.any_cons, List.any_cons, ih, h1.1]
theorem dpkt_app {kvs kvs2 : List (ι × PyData)} {ws ws2 : List (ι × V)} (h : DpKs K B kvs ws) (h2 : DpKs K B kvs2 ws2) : DpKs K B (kvs ++ kvs2) (ws ++ ws2) := by
  unfold DpKs at h
  induction h with
  | nil => exact h2
  | cons h1 _ ih => exact .cons h1 ih
theorem dpkt_put {kvs : List (ι × PyData)} {ws : List (ι × V)} {k : ι} {d : PyData} (h : DpKs K B kvs ws) (r : Dp K B v d) : DpKs K B (putT kvs k d) (L2.putK ws k v) := by
  unfold putT L2.putK
  rw [dpkt_any h]
  split
  · unfold DpKs at h
    induction h with
    | nil => exact .nil
    | @cons p q ps qs h1 h2 ih =>
      rw [List.map_cons, List.map_cons]
      refine .cons ?_ ?_
      · rw [h1.1]
        by_cases hk : q.1 = k
        · rw [if_pos hk, if_pos hk]; exact ⟨rfl, r⟩
        · rw [if_neg hk, if_neg hk]; exact h1
      · rename_i hany
        by_cases ha : (qs.any fun kv => decide (kv.1 = k)) = true
        · exact ih ha
        · have none : ∀ q ∈ qs, q.1 ≠ k := fun q hq e => ha (List.any_eq_true.mpr ⟨q, hq, decide_eq_true e⟩)
          have : ∀ {ps : List (ι × PyData)} {qs : List (ι × V)}, Paired (fun (p : ι × PyData) (q : ι × V) => p.1 = q.1 ∧ Dp K B q.2 p.2) ps qs → (∀ q ∈ qs, q.1 ≠ k) →
              Paired (fun (p : ι × PyData) (q : ι × V) => p.1 = q.1 ∧ Dp K B q.2 p.2) (ps.map fun kv => if kv.1 = k then (kv.1, d) else kv) (qs.map fun kv => if kv.1 = k then (kv.1, v) else kv) := by
            intro ps qs hp
            induction hp with
            | nil => intro _; exact .nil
            | @cons p q ps qs h1 h2 ih =>
              intro hn
              have hq := hn q (List.mem_cons_self ..)
              rw [List.map_cons, List.map_cons, h1.1, if_neg hq, if_neg hq]
              exact .cons h1 (ih fun z hz => hn z (List.mem_cons_of_mem _ hz))
          exact this h2 none
  · exact dpkt_app h (.cons ⟨rfl, r⟩ .nil)
theorem dpkt_isSome {kvs : List (ι × PyData)} {ws : List (ι × V)} {k : ι} (h : DpKs K B kvs ws) : (valV ws k).isSome = (valT kvs k).isSome := by
  have h1 := dpkt_any (k := k) h
  rw [valV_any] at h1
  rw [← h1]
  unfold valT
  rw [Option.isSome_map, Bool.eq_iff_iff, List.any_eq_true, List.find?_isSome]
end
/-! ### keys -/
theorem dpa_key_eq : ∀ {k : List L2.Key} {vs : List V}, DpAll K B vs (k.map keyD) → vs = k.map kV
  | [], _, h => by cases h; rfl
  | .inl i :: k, _, h => by
    cases h with
    | cons h1 h2 => cases h1; rw [dpa_key_eq h2]; rfl
  | .inr s :: k, _, h => by
    cases h with
    | cons h1 h2 => cases h1; rw [dpa_key_eq h2]; rfl
/-- a key tuple: a cell; data or a cell -/
def KyC (κ : AK) (b : AV) (key : List L2.Key) : Prop := ∃ j, b = .c j ∧ κ[j]? = some (.tup ((key.map keyD).map .d))
def Ky (κ : AK) (b : AV) (key : List L2.Key) : Prop := b = .d (.tuple (key.map keyD)) ∨ KyC κ b key
theorem kyC_at (g : G K B ρ κ H) {key : List L2.Key} (h : KyC κ b key) (r : Rep K B ρ b y) : ∃ q, y = .ref q ∧ H q = some (.tup (key.map kV)) := by
  obtain ⟨j, rfl, ek⟩ := h
  obtain ⟨q, hq, rfl⟩ := r
  obtain ⟨q', hq', vs, r', eH⟩ := g.cell ek
  rw [hq] at hq'; cases hq'
  have := dpa_key_eq (Reps.of_all r')
  subst this
  exact ⟨q, rfl, eH⟩
theorem ky_at (g : G K B ρ κ H) {key : List L2.Key} (h : Ky κ b key) (r : Rep K B ρ b y) : ∃ q, y = .ref q ∧ SqT K H q (key.map kV) := by
  rcases h with rfl | h
  · obtain ⟨q, xs, rfl, s1, d1⟩ := of_tupG g r
    have := dpa_key_eq d1
    subst this
    exact ⟨q, rfl, s1⟩
  · obtain ⟨q, e, eH⟩ := kyC_at g h r
    exact ⟨q, e, .inl (.inl eH)⟩
theorem G.dtAt (g : G K B ρ κ H) {xs : List (List L2.Key × PyData)} (hp : ρ[k]? = some p) (ek : κ[k]? = some (.dT xs)) : ∃ vs, DpKs K B xs vs ∧ H p = some (.dT vs) ∧
    ∀ xs' vs', DpKs K B xs' vs' → Up B ρ H B ρ (upd H p (.dT vs')) ∧ G K B ρ (κ.set k (.dT xs')) (upd H p (.dT vs')) := by
  obtain ⟨p', hp', hb, vs, r, eH⟩ := g.cell ek
  rw [hp] at hp'; cases hp'
  refine ⟨vs, r, eH, fun xs' vs' r' => ⟨G.writeUp hp, ?_⟩⟩
  have hc : CellOk K B ρ (upd H p (.dT vs')) p (.dT xs') := ⟨hb, vs', r', upd_same⟩
  exact g.write hp hb hc
/-! ### d[k] of a key tuple that stands anywhere -/
section
variable {pins : List (Addr × Obj)} {s : Shared} {A : Around} {E : Value → Shared → Prop} {q w : Value}
theorem key_ofS {pins : List (Addr × Obj)} {s : Shared} {ks : List L2.Key} {q : Addr} (I : Inv X pins σ H s) (h : SqT X.K H q (ks.map kV)) : (tupleKind (mixKind X.prog X.w)).is s.heap ks q := by
  obtain ⟨its, r, ⟨o, h1, h2, n, h3⟩, _⟩ := I.tuple h
  exact ⟨o, its.toArray, n, h1, h2, h3, by simpa using items_are r⟩
def tTGet (K : PySem.W.Frag) (td ty : TE) : TE := fun σ H Q => td σ H fun x H1 => ty σ H1 fun y H2 => ∃ a q v kvs key, x = .ref a ∧ y = .ref q ∧ Rd H2 a (.dT kvs) ∧ SqT K H2 q (key.map kV) ∧ valV kvs key = some v ∧ Q v H2
theorem pe_tget {o i : Expr} {td ty : TE} (hu : X.A.units + 1 < cLine) (ho : PE X o td) (hi : PE X i ty) (hs : NoSl i) : PE X (.Subscript o i pos) (tTGet X.K td ty) := by
  refine ⟨fun pins s σ H Q I h => ?_⟩
  refine subD_of PySem.F.slot_dict_getitem.lookup hs (thn (ho.run pins s σ H _ I h) fun u s1 ⟨x, H1, I1, rx, q1⟩ => thn (hi.run pins s1 σ H1 _ I1 q1) fun iv s2 ⟨y, H2, I2, ry, a, b, v, kvs, key, ex, ey, e, hk, l, q2⟩ => ?_)
  subst ex
  subst ey
  obtain rfl : u = Value.ref a := rx
  obtain rfl : iv = Value.ref b := ry
  obtain ⟨z, hd, xs, rel, dd⟩ := dt_rd I2.hok e
  refine ⟨dd.typeIs, ?_⟩
  obtain ⟨w', hw, rw'⟩ := RelO.some_of (v := v) (o := (atKey xs key).map (·.2)) (by rw [← l]; exact rel.val key)
  obtain ⟨p, hp, hp2⟩ := Option.map_eq_some_iff.mp hw
  refine wpAny_getItem_heap (tupleKind_room_in1 hu) (key_ofS I2 hk) dd hp ?_
  rw [hp2]
  exact ⟨v, H2, I2.tok _, rw', q2⟩
end
def aTGet (f f2 : AE) : AE := fun δ κ R => f δ κ fun a κ1 => f2 δ κ1 fun b κ2 => match a with
  | .c k => ∃ kvs key d, κ2[k]? = some (.dT kvs) ∧ Ky κ2 b key ∧ valT kvs key = some d ∧ R (.d d) κ2
  | _ => False
theorem ea_tget {l : Nat} (hr : Room l X.A) (h1 : PEa K X e t f) (h2 : PEa K X e2 u f2) (hs : NoSl e2 := by exact fun _ _ => rfl) (hK : X.K = K := by rfl) : PEa K X (.Subscript e e2 pos) (tTGet K t u) (aTGet f f2) := by
  obtain ⟨K, Kn, KZ, Ku⟩ := K
  change X.K = K at hK
  subst hK
  exact ⟨pe_tget (Nat.lt_of_le_of_lt (by omega) hr.units) h1.pe h2.pe hs, fun B ρ δ κ σ H R Q s g hh q => h1.sd B ρ δ κ σ H _ _ s g hh fun B1 ρ1 κ1 H1 a x u1 g1 r1 k1 => h2.sd _ _ _ _ _ _ _ _ (s.up u1.g) g1 k1 fun B2 ρ2 κ2 H2 b y u2 g2 r2 k2 => by
    split at k2
    · obtain ⟨kvs, key, d, ek, hk, hv, k2⟩ := k2
      obtain ⟨p, hp, rfl⟩ := r1.up u2.g
      obtain ⟨vs, r, eH, _⟩ := g2.dtAt hp ek
      obtain ⟨v, hv', rv⟩ := dpkt_val r hv
      obtain ⟨qa, rfl, sq⟩ := ky_at g2 hk r2
      exact ⟨p, qa, v, vs, key, rfl, rfl, .inl eH, sq, hv', q _ _ _ _ (.d d) _ (u1.trans u2) g2 rv k2⟩
    · exact k2.elim⟩
/-- d[k] = v -/
def aTPut (fo fi fv : AE) : AS := fun A δ κ => fv δ κ fun v κ1 => fo δ κ1 fun a κ2 => fi δ κ2 fun b κ3 => match a with
  | .c k => ∃ kvs key d, κ3[k]? = some (.dT kvs) ∧ KyC κ3 b key ∧ v = .d d ∧ kvs.length < sizeLine ∧ A.nx δ (κ3.set k (.dT (putT kvs key d)))
  | _ => False
variable {o i val : Expr} {to' ti tv : TE} {fo fi fv : AE} {pos' : Pos}
theorem sa_tput {l : Nat} (hr : Room l X.A) (ho : PEa K X o to' fo) (hi : PEa K X i ti fi) (hv : PEa K X val tv fv) (hs : swapsWith val (some (.Subscript o i pos')) pos.line X.env = pure false := by rfl) :
    PSa K X (.Assign [.Subscript o i pos'] val pos) (sDPut to' ti tv) (aTPut fo fi fv) :=
  ⟨ps_dput (Nat.lt_of_le_of_lt (by omega) hr.units) ho.pe hi.pe hv.pe hs, fun B ρ δ κ σ H A D s g l hh im => hv.sd B ρ δ κ σ H _ _ s g hh fun B1 ρ1 κ1 H1 vv xv u1 g1 r1 k1 => ho.sd _ _ _ _ _ _ _ _ (s.up u1.g) g1 k1 fun B2 ρ2 κ2 H2 a xo u2 g2 r2 k2 => hi.sd _ _ _ _ _ _ _ _ (s.up (u1.trans u2).g) g2 k2 fun B3 ρ3 κ3 H3 b y u3 g3 r3 k3 => by
    split at k3
    · obtain ⟨kvs, key, d, ek, hk, rfl, hl, k3⟩ := k3
      obtain ⟨p, hp, rfl⟩ := r2.up u3.g
      obtain ⟨vs, r, eH, wr⟩ := g3.dtAt hp ek
      obtain ⟨qa, rfl, eb⟩ := kyC_at g3 hk r3
      have rd : Dp K B3 xv d := dp_up (u2.trans u3).s _ _ r1
      obtain ⟨u4, g4⟩ := wr _ _ (dpkt_put (k := key) r rd)
      have w := ((u1.trans u2).trans u3).trans u4
      refine ⟨p, _, rfl, DPut.t eH eb (by rw [← Paired.length r]; exact hl), im.nx _ _ _ _ _ _ w.n g4 (s.up w.g) (Nat.le_trans l (w.len g g4)) k3⟩
    · exact k3.elim⟩
/-- k in d, k not in d: the key a cell -/
def aTIn (n : Bool → Bool) (fi fo : AE) : AE := fun δ κ R => fi δ κ fun b κ1 => fo δ κ1 fun a κ2 => match a with
  | .c k => ∃ kvs key, κ2[k]? = some (.dT kvs) ∧ KyC κ2 b key ∧ R (.d (.bool (n (valT kvs key).isSome))) κ2
  | _ => False
theorem se_tin {n : Bool → Bool} (hi : SE K ti fi) (ho : SE K to' fo) : SE K (fun σ H Q => ti σ H fun y H1 => to' σ H1 fun x H2 => ∃ a o, x = .ref a ∧ DGet H2 a y o ∧ Q (.bl (n o.isSome)) H2) (aTIn n fi fo) := fun B ρ δ κ σ H R Q s g hh q =>
  hi _ _ _ _ _ _ _ _ s g hh fun B1 ρ1 κ1 H1 b y u1 g1 r1 h1 => ho _ _ _ _ _ _ _ _ (s.up u1.g) g1 h1 fun B2 ρ2 κ2 H2 a x u2 g2 r2 h2 => by
    split at h2
    · obtain ⟨kvs, key, ek, hk, h2⟩ := h2
      obtain ⟨p, hp, rfl⟩ := r2
      obtain ⟨vs, r, eH, _⟩ := g2.dtAt hp ek
      obtain ⟨qa, rfl, eb⟩ := kyC_at g2 hk (r1.up u2.g)
      refine ⟨p, valV vs key, rfl, DGet.t eH eb, ?_⟩
      rw [dpkt_isSome r]
      exact q _ _ _ _ _ _ (u1.trans u2) g2 (rp_bl _) h2
    · exact h2.elim
theorem ea_tin {l : Nat} (hr : Room l X.A) (hi : PEa K X i ti fi) (ho : PEa K X o to' fo) (hm : behindInMarks .In o = false := by first | exact nomark _ | rfl) : PEa K X (.Compare i [.In] [o] pos) (tDIn ti to') (aTIn id fi fo) := ⟨pe_cmp (pc_din (Nat.lt_of_le_of_lt (by omega) hr.units) hi.pe ho.pe) hm, se_tin (n := id) hi.sd ho.sd⟩
theorem ea_tnotin {l : Nat} (hr : Room l X.A) (hi : PEa K X i ti fi) (ho : PEa K X o to' fo) (hm : behindInMarks .NotIn o = false := by first | exact nomark _ | rfl) : PEa K X (.Compare i [.NotIn] [o] pos) (tDNotIn ti to') (aTIn not fi fo) := ⟨pe_cmp (pc_dnotin (Nat.lt_of_le_of_lt (by omega) hr.units) hi.pe ho.pe) hm, se_tin (n := not) hi.sd ho.sd⟩
theorem ta_tin {l : Nat} (hr : Room l X.A) (hi : PEa K X i ti fi) (ho : PEa K X o to' fo) (hm : behindInMarks .In o = false := by first | exact nomark _ | rfl) : PTa K X (.Compare i [.In] [o] pos) (tTest (tDIn ti to')) (aB (aTIn id fi fo)) := ⟨pt_cmp (pc_din (Nat.lt_of_le_of_lt (by omega) hr.units) hi.pe ho.pe) hm, st_B (se_tin (n := id) hi.sd ho.sd)⟩
theorem ta_tnotin {l : Nat} (hr : Room l X.A) (hi : PEa K X i ti fi) (ho : PEa K X o to' fo) (hm : behindInMarks .NotIn o = false := by first | exact nomark _ | rfl) : PTa K X (.Compare i [.NotIn] [o] pos) (tTest (tDNotIn ti to')) (aB (aTIn not fi fo)) := ⟨pt_cmp (pc_dnotin (Nat.lt_of_le_of_lt (by omega) hr.units) hi.pe ho.pe) hm, st_B (se_tin (n := not) hi.sd ho.sd)⟩
/-- {}: one whose keys will be tuples -/
def aTNew : AE := fun _ κ R => R (.c κ.length) (κ ++ [.dT []])
theorem ea_tnew : PEa K X (.Dict [] [] pos) tDNewT aTNew := ⟨pe_dnewT, fun B ρ δ κ σ H R Q s g h q => by
  intro p hp
  refine q _ _ _ _ _ _ (g.allocUp hp) (g.alloc hp (show CellOk K B ρ _ p (.dT []) from ⟨g.fresh hp, [], .nil, upd_same⟩)) (rep_new g) h⟩
/-- a tuple that is a cell in any case -/
def aTupC (g : AA) : AE := fun δ κ R => g δ κ fun as κ1 => as.length ≤ sizeLine ∧ R (.c κ1.length) (κ1 ++ [.tup as])
theorem ea_tupC {es : List Expr} {ta : TA} {fa : AA} {x1} (h : PAa K X es ta fa) : PEa K X (.Tuple es x1 pos) (tTup ta) (aTupC fa) := by
  refine ⟨pe_tup h.pa, fun B ρ δ κ σ H R Q s g hh q => h.sd B ρ δ κ σ H _ _ s g hh fun B1 ρ1 κ1 H1 as xs u1 g1 r1 h1 => ?_⟩
  refine ⟨by rw [← r1.len]; exact h1.1, fun p hp => ?_⟩
  obtain ⟨u2, g2, r2⟩ := new_tcell g1 hp r1
  exact q _ _ _ _ _ _ (u1.trans u2) g2 r2 h1.2
end Ab
set_option Elab.async false
set_option linter.all false
set_option maxRecDepth 100000
set_option maxHeartbeats 4000000
/-! Ab16: comprehensions that give cells; lists of cells walked -/
namespace Ab
open PySem L2
variable {K : Frg} {B B' B2 H H' H2 : Hp} {ρ ρ' ρ2 : List Addr} {κ κ' : AK} {δ : AD} {σ : L2.St} {p : Addr} {k : Nat} {v x y z : V} {a b c : AV}
variable {X : Cx} {e e2 : Expr} {t u : TE} {f f2 : AE} {pos : Pos}
/-- [elt for target in iter if ..]: a list that is a cell, of any things -/
def LcCd (J : AIt) (ag : AG) (p : AT) (f : AE) (vs : List Nat) (δ : AD) (κ1 : AK) (R : AR) : Prop := ∃ W : Nat → Nat → List AV → AK → Prop, (∃ m, W 0 m [] κ1) ∧ ∀ i m acc κ', W i m acc κ' →
  (J.stop i κ' ∧ R (.c κ'.length) (κ' ++ [.lst acc])) ∨ (J.go i κ' ∧ ∃ N : List AV → AK → Prop, (∀ acc2 κ2, N acc2 κ2 → ∃ m', m' < m ∧ W (i + 1) m' acc2 κ2) ∧ ∀ a, J.yld i κ' a → ag a (wipeA δ vs) κ' fun δ2 κ2 => p δ2 κ2 fun b κ3 =>
    bsel b (f δ2 κ3 fun y κ4 => acc.length < sizeLine ∧ N (acc ++ [y]) κ4) (N acc κ3))
@[irreducible] def LcC (J : AIt) (ag : AG) (p : AT) (f : AE) (vs : List Nat) (δ : AD) (κ1 : AK) (R : AR) : Prop := LcCd J ag p f vs δ κ1 R
theorem lcC {J : AIt} {ag : AG} {p : AT} {f : AE} {vs : List Nat} {δ : AD} {κ1 : AK} {R : AR} : LcC J ag p f vs δ κ1 R ↔ LcCd J ag p f vs δ κ1 R := by
  unfold LcC; exact Iff.rfl
def aLcC (ai : AI) (ag : AG) (p : AT) (f : AE) (vs : List Nat) : AE := fun δ κ R => ai δ κ fun J κ1 => LcC J ag p f vs δ κ1 R
theorem se_lcC {wi : TI} {ai : AI} {tg : TG} {ag : AG} {tt : TT} {pt : AT} {vs : List Nat} (hi : SI K wi ai) (hg : SGw K tg ag vs) (ht : ST K tt pt) (he : SE K t f) : SE K (tLc wi tg tt t vs) (aLcC ai ag pt f vs) := fun B ρ δ κ σ H R Q s g hh q =>
  hi B ρ δ κ σ H _ _ s g hh fun B1 ρ1 κ1 H1 J Ja w1 g1 ri hlc => by
    obtain ⟨W, ⟨m0, w0⟩, turn⟩ := lcC.mp hlc
    intro D hD
    have q1 := q.later w1
    refine ⟨fun i m H' => ∃ B' ρ' κ' accV acc, Up B1 ρ1 H1 B' ρ' H' ∧ G K B' ρ' κ' H' ∧ H' D = some (.lst accV) ∧ B' D = none ∧ D ∉ ρ' ∧ Reps K B' ρ' acc accV ∧ W i m acc κ', ⟨m0, B1, ρ1, κ1, [], [], Up.refl.off hD, g1.off (g1.fresh hD) (fun z => ?_) (K.up _ _ _ _ _ _ (Up.refl.off hD).n g1.z), upd_same, g1.fresh hD, fun z => ?_, .nil, w0⟩, ?_⟩
    · obtain ⟨i, hi⟩ := List.mem_iff_getElem?.mp z
      exact g1.nin hD hi rfl
    · obtain ⟨i, hi⟩ := List.mem_iff_getElem?.mp z
      exact g1.nin hD hi rfl
    rintro i m H2 ⟨B2, ρ2, κ2, accV, acc, w2, g2, eD, bD, rD, da, hw⟩
    have r := ri B2 ρ2 κ2 H2 w2 g2 i
    rcases turn i m acc κ2 hw with ⟨h1, h2⟩ | ⟨h1, N, hN, h2⟩
    · refine .inl ⟨r.1 h1, ?_⟩
      have g3 : G K B2 (ρ2 ++ [D]) (κ2 ++ [.lst acc]) H2 := by
        have hc : CellOk K B2 ρ2 H2 D (.lst acc) := ⟨bD, _, da, eD⟩
        refine ⟨g2.ex, by rw [List.length_append, List.length_append, g2.len] <;> rfl, fun i j r h1 h2 => ?_, fun i r c h1 h2 => ?_, K.up _ _ _ _ _ _ (w2.newR hD).n g1.z⟩
        · rcases get_snoc h1 with ⟨l1, e1⟩ | ⟨l1, e1⟩
          · rcases get_snoc h2 with ⟨l2, e2⟩ | ⟨l2, e2⟩
            · exact g2.inj i j r e1 e2
            · subst e2; exact absurd (mem_of_get e1) rD
          · rcases get_snoc h2 with ⟨l2, e2⟩ | ⟨l2, e2⟩
            · subst e1; exact absurd (mem_of_get e2) rD
            · rw [l1, l2]
        · rcases get_snoc h1 with ⟨l1, e1⟩ | ⟨l1, e1⟩
          · rw [List.getElem?_append_left (g2.len ▸ l1)] at h2
            exact (g2.at' i r c e1 h2).up up_snoc Or.inl fun o' e => e
          · subst e1
            rcases get_snoc h2 with ⟨l2, e2⟩ | ⟨l2, e2⟩
            · rw [l1, g2.len] at l2; exact absurd l2 (Nat.lt_irrefl _)
            · subst e2; exact hc.up up_snoc Or.inl fun _ e => e
      refine q1 B2 (ρ2 ++ [D]) _ H2 _ _ ⟨w2.s, fun i a h => get_app (w2.p i a h), fun p o z1 z2 z3 => ?_⟩ g3 (rep_new g2) h2
      obtain ⟨y1, y2, y3⟩ := w2.f p o z1 z2 z3
      refine ⟨y1, y2, fun z => ?_⟩
      rcases List.mem_append.mp z with z | z
      · exact y3 z
      · exact ne_of_none z1 hD (by simpa using z)
    · obtain ⟨hgo, hy⟩ := r.2 h1
      -- a turn's end
      refine .inr ⟨hgo, fun H' => ∃ B' ρ' κ' accV acc, Up B1 ρ1 H1 B' ρ' H' ∧ G K B' ρ' κ' H' ∧ H' D = some (.lst accV) ∧ B' D = none ∧ D ∉ ρ' ∧ Reps K B' ρ' acc accV ∧ N acc κ', ?_, fun x H3 hx => ?_⟩
      · rintro H' ⟨B', ρ', κ', accV', acc', z1, z2, z3, z4, z5, z6, hn⟩
        obtain ⟨m', hm, hw'⟩ := hN _ _ hn
        exact ⟨m', hm, B', ρ', κ', accV', acc', z1, z2, z3, z4, z5, z6, hw'⟩
      · obtain ⟨B3, a, w3, g3, ra, ya⟩ := hy x H3 hx
        have sw : S K B3 ρ2 (wipeA δ vs) (L2.wipe σ vs) := (s.up ((w1.trans w2).trans w3).g).wipe vs
        refine hg _ _ _ _ _ _ _ _ _ _ sw g3 ra (h2 a ya) fun B4 ρ4 δ4 κ4 σ4 H4 w4 s4 g4 h4 e4 => ⟨by rw [e4, wipe_wipe], ?_⟩
        refine ht _ _ _ _ _ _ _ _ s4 g4 h4 fun B5 ρ5 κ5 H5 b w5 g5 h5 => ?_
        have w25 := (w3.trans w4).trans w5
        obtain ⟨e5, b5, r5⟩ := w25.f D _ eD (.inl bD) rD
        have b5 : B5 D = none := b5.elim id fun ⟨ws, z⟩ => by cases z
        cases b with
        | false =>
          refine iteF ⟨B5, ρ5, κ5, accV, acc, w2.trans w25, g5, e5, b5, r5, Reps.up w25.g da, h5⟩
        | true =>
          refine iteT (he _ _ _ _ _ _ _ _ (s4.up w5.g) g5 h5 fun B6 ρ6 κ6 H6 a6 v6 w6 g6 r6 h6 => ?_)
          obtain ⟨hl, hn⟩ := h6
          obtain ⟨e6, b6, r6'⟩ := w6.f D _ e5 (.inl b5) r5
          have b6 : B6 D = none := b6.elim id fun ⟨ws, z⟩ => by cases z
          have w26 := w25.trans w6
          have da6 := Reps.up w26.g da
          refine ⟨accV, e6, by rw [← da6.len]; exact hl, B6, ρ6, κ6, accV ++ [v6], acc ++ [a6], (w2.trans w26).off hD, g6.off b6 r6' (K.up _ _ _ _ _ _ ((w2.trans w26).off hD).n g1.z), upd_same, b6, r6', Paired.snoc da6 r6, hn⟩
section
variable {elt tge iter : Expr} {ifs : List Expr} {scope : Scope} {own : List (Str × Nat)} {wi : TI} {ai : AI} {tg : TG} {ag : AG} {tt : TT} {pt : AT} {te : TE} {fe : AE}
theorem ea_lcC (hc : X.calm = true) (hN : X.N.Nodup) (hi : PIa K X tge iter wi ai) (ok : BlkOk X.N X.env.scope scope own)
    (hg : ∀ (s : Shared) (H : Hp) (C : Addr) (cl : List (Str × Addr)) (fp : List Addr), PG (X.blk s H scope (compEnvC scope cl C X.env) fp) tge tg) (hgw : SGw K tg ag (own.map (·.2)))
    (ht : ∀ (s : Shared) (H : Hp) (C : Addr) (cl : List (Str × Addr)) (fp : List Addr), PTsa K (X.blk s H scope (compEnvC scope cl C X.env) fp) ifs tt pt)
    (he : ∀ (s : Shared) (H : Hp) (C : Addr) (cl : List (Str × Addr)) (fp : List Addr), PEa K (X.blk s H scope (compEnvC scope cl C X.env) fp) elt te fe) (hs : ∀ x, foldedSetIterable iter X.env x = pure x := by intro _; rfl) :
    PEa K X (.ListComp elt [⟨tge, iter, ifs, 0⟩] scope pos) (tLc wi tg tt te (own.map (·.2))) (aLcC ai ag pt fe (own.map (·.2))) :=
  ⟨pe_lc hc hN hi.pi ok hg (fun s H C cl fp => (ht s H C cl fp).pt) (fun s H C cl fp => (he s H C cl fp).pe) hs, se_lcC hi.sd hgw (ht ({} : Shared) (fun _ => none) 0 [] []).sd (he ({} : Shared) (fun _ => none) 0 [] []).sd⟩
theorem sa_setLcC {i : Nat} {y : Str} {py spos : Pos} (hc : X.calm = true) (hN : X.N.Nodup) (hy : X.N[i]? = some y) (hyl : X.env.scope.names.lookup y = some .local)
    (hsw : swapsWith (.ListComp elt [⟨tge, iter, ifs, 0⟩] scope pos) (some (.Name y py)) spos.line X.env = pure true) (hi : PIa K X tge iter wi ai) (ok : BlkOk X.N X.env.scope scope own)
    (hg : ∀ (s : Shared) (H : Hp) (C : Addr) (cl : List (Str × Addr)) (fp : List Addr), PG (X.blk s H scope (compEnvC scope cl C X.env) fp) tge tg) (hgw : SGw K tg ag (own.map (·.2)))
    (ht : ∀ (s : Shared) (H : Hp) (C : Addr) (cl : List (Str × Addr)) (fp : List Addr), PTsa K (X.blk s H scope (compEnvC scope cl C X.env) fp) ifs tt pt)
    (he : ∀ (s : Shared) (H : Hp) (C : Addr) (cl : List (Str × Addr)) (fp : List Addr), PEa K (X.blk s H scope (compEnvC scope cl C X.env) fp) elt te fe) (hs : ∀ x, foldedSetIterable iter X.env x = pure x := by intro _; rfl) :
    PSa K X (.Assign [.Name y py] (.ListComp elt [⟨tge, iter, ifs, 0⟩] scope pos) spos) (tAsg (tLc wi tg tt te (own.map (·.2))) (gName i)) (aSet i (aLcC ai ag pt fe (own.map (·.2)))) :=
  ⟨ps_setLc hc hN hy hyl hsw hi.pi ok hg (fun s H C cl fp => (ht s H C cl fp).pt) (fun s H C cl fp => (he s H C cl fp).pe) hs, ss_asg (se_lcC hi.sd hgw (ht ({} : Shared) (fun _ => none) 0 [] []).sd (he ({} : Shared) (fun _ => none) 0 [] []).sd) sg_name⟩
end
/-- the same, its items data: a cell -/
def LcLd (J : AIt) (ag : AG) (p : AT) (f : AE) (vs : List Nat) (δ : AD) (κ1 : AK) (R : AR) : Prop := ∃ W : Nat → Nat → List PyData → AK → Prop, (∃ m, W 0 m [] κ1) ∧ ∀ i m acc κ', W i m acc κ' →
  (J.stop i κ' ∧ R (.c κ'.length) (κ' ++ [.ld acc])) ∨ (J.go i κ' ∧ ∃ N : List PyData → AK → Prop, (∀ acc2 κ2, N acc2 κ2 → ∃ m', m' < m ∧ W (i + 1) m' acc2 κ2) ∧ ∀ a, J.yld i κ' a → ag a (wipeA δ vs) κ' fun δ2 κ2 => p δ2 κ2 fun b κ3 =>
    bsel b (f δ2 κ3 fun y κ4 => ∃ d, y = .d d ∧ acc.length < sizeLine ∧ N (acc ++ [d]) κ4) (N acc κ3))
@[irreducible] def LcL (J : AIt) (ag : AG) (p : AT) (f : AE) (vs : List Nat) (δ : AD) (κ1 : AK) (R : AR) : Prop := LcLd J ag p f vs δ κ1 R
theorem lcL {J : AIt} {ag : AG} {p : AT} {f : AE} {vs : List Nat} {δ : AD} {κ1 : AK} {R : AR} : LcL J ag p f vs δ κ1 R ↔ LcLd J ag p f vs δ κ1 R := by
  unfold LcL; exact Iff.rfl
def aLcL (ai : AI) (ag : AG) (p : AT) (f : AE) (vs : List Nat) : AE := fun δ κ R => ai δ κ fun J κ1 => LcL J ag p f vs δ κ1 R
theorem se_lcL {wi : TI} {ai : AI} {tg : TG} {ag : AG} {tt : TT} {pt : AT} {vs : List Nat} (hi : SI K wi ai) (hg : SGw K tg ag vs) (ht : ST K tt pt) (he : SE K t f) : SE K (tLc wi tg tt t vs) (aLcL ai ag pt f vs) := fun B ρ δ κ σ H R Q s g hh q =>
  hi B ρ δ κ σ H _ _ s g hh fun B1 ρ1 κ1 H1 J Ja w1 g1 ri hlc => by
    obtain ⟨W, ⟨m0, w0⟩, turn⟩ := lcL.mp hlc
    intro D hD
    have q1 := q.later w1
    refine ⟨fun i m H' => ∃ B' ρ' κ' accV acc, Up B1 ρ1 H1 B' ρ' H' ∧ G K B' ρ' κ' H' ∧ H' D = some (.lst accV) ∧ B' D = none ∧ D ∉ ρ' ∧ DpAll K B' accV acc ∧ W i m acc κ', ⟨m0, B1, ρ1, κ1, [], [], Up.refl.off hD, g1.off (g1.fresh hD) (fun z => ?_) (K.up _ _ _ _ _ _ (Up.refl.off hD).n g1.z), upd_same, g1.fresh hD, fun z => ?_, .nil, w0⟩, ?_⟩
    · obtain ⟨i, hi⟩ := List.mem_iff_getElem?.mp z
      exact g1.nin hD hi rfl
    · obtain ⟨i, hi⟩ := List.mem_iff_getElem?.mp z
      exact g1.nin hD hi rfl
    rintro i m H2 ⟨B2, ρ2, κ2, accV, acc, w2, g2, eD, bD, rD, da, hw⟩
    have r := ri B2 ρ2 κ2 H2 w2 g2 i
    rcases turn i m acc κ2 hw with ⟨h1, h2⟩ | ⟨h1, N, hN, h2⟩
    · refine .inl ⟨r.1 h1, ?_⟩
      have g3 : G K B2 (ρ2 ++ [D]) (κ2 ++ [.ld acc]) H2 := by
        have hc : CellOk K B2 ρ2 H2 D (.ld acc) := ⟨bD, _, da, eD⟩
        refine ⟨g2.ex, by rw [List.length_append, List.length_append, g2.len] <;> rfl, fun i j r h1 h2 => ?_, fun i r c h1 h2 => ?_, K.up _ _ _ _ _ _ (w2.newR hD).n g1.z⟩
        · rcases get_snoc h1 with ⟨l1, e1⟩ | ⟨l1, e1⟩
          · rcases get_snoc h2 with ⟨l2, e2⟩ | ⟨l2, e2⟩
            · exact g2.inj i j r e1 e2
            · subst e2; exact absurd (mem_of_get e1) rD
          · rcases get_snoc h2 with ⟨l2, e2⟩ | ⟨l2, e2⟩
            · subst e1; exact absurd (mem_of_get e2) rD
            · rw [l1, l2]
        · rcases get_snoc h1 with ⟨l1, e1⟩ | ⟨l1, e1⟩
          · rw [List.getElem?_append_left (g2.len ▸ l1)] at h2
            exact (g2.at' i r c e1 h2).up up_snoc Or.inl fun o' e => e
          · subst e1
            rcases get_snoc h2 with ⟨l2, e2⟩ | ⟨l2, e2⟩
            · rw [l1, g2.len] at l2; exact absurd l2 (Nat.lt_irrefl _)
            · subst e2; exact hc.up up_snoc Or.inl fun _ e => e
      refine q1 B2 (ρ2 ++ [D]) _ H2 _ _ ⟨w2.s, fun i a h => get_app (w2.p i a h), fun p o z1 z2 z3 => ?_⟩ g3 (rep_new g2) h2
      obtain ⟨y1, y2, y3⟩ := w2.f p o z1 z2 z3
      refine ⟨y1, y2, fun z => ?_⟩
      rcases List.mem_append.mp z with z | z
      · exact y3 z
      · exact ne_of_none z1 hD (by simpa using z)
    · obtain ⟨hgo, hy⟩ := r.2 h1
      -- a turn's end
      refine .inr ⟨hgo, fun H' => ∃ B' ρ' κ' accV acc, Up B1 ρ1 H1 B' ρ' H' ∧ G K B' ρ' κ' H' ∧ H' D = some (.lst accV) ∧ B' D = none ∧ D ∉ ρ' ∧ DpAll K B' accV acc ∧ N acc κ', ?_, fun x H3 hx => ?_⟩
      · rintro H' ⟨B', ρ', κ', accV', acc', z1, z2, z3, z4, z5, z6, hn⟩
        obtain ⟨m', hm, hw'⟩ := hN _ _ hn
        exact ⟨m', hm, B', ρ', κ', accV', acc', z1, z2, z3, z4, z5, z6, hw'⟩
      · obtain ⟨B3, a, w3, g3, ra, ya⟩ := hy x H3 hx
        have sw : S K B3 ρ2 (wipeA δ vs) (L2.wipe σ vs) := (s.up ((w1.trans w2).trans w3).g).wipe vs
        refine hg _ _ _ _ _ _ _ _ _ _ sw g3 ra (h2 a ya) fun B4 ρ4 δ4 κ4 σ4 H4 w4 s4 g4 h4 e4 => ⟨by rw [e4, wipe_wipe], ?_⟩
        refine ht _ _ _ _ _ _ _ _ s4 g4 h4 fun B5 ρ5 κ5 H5 b w5 g5 h5 => ?_
        have w25 := (w3.trans w4).trans w5
        obtain ⟨e5, b5, r5⟩ := w25.f D _ eD (.inl bD) rD
        have b5 : B5 D = none := b5.elim id fun ⟨ws, z⟩ => by cases z
        cases b with
        | false =>
          refine iteF ⟨B5, ρ5, κ5, accV, acc, w2.trans w25, g5, e5, b5, r5, dpa_up w25.s _ _ da, h5⟩
        | true =>
          refine iteT (he _ _ _ _ _ _ _ _ (s4.up w5.g) g5 h5 fun B6 ρ6 κ6 H6 a6 v6 w6 g6 r6 h6 => ?_)
          obtain ⟨d, rfl, hl, hn⟩ := h6
          obtain ⟨e6, b6, r6'⟩ := w6.f D _ e5 (.inl b5) r5
          have b6 : B6 D = none := b6.elim id fun ⟨ws, z⟩ => by cases z
          have w26 := w25.trans w6
          have da6 := dpa_up w26.s _ _ da
          refine ⟨accV, e6, by rw [dpa_len da6]; exact hl, B6, ρ6, κ6, accV ++ [v6], acc ++ [d], (w2.trans w26).off hD, g6.off b6 r6' (K.up _ _ _ _ _ _ ((w2.trans w26).off hD).n g1.z), upd_same, b6, r6', dpa_app da6 (.cons r6 .nil), hn⟩
section
variable {elt tge iter : Expr} {ifs : List Expr} {scope : Scope} {own : List (Str × Nat)} {wi : TI} {ai : AI} {tg : TG} {ag : AG} {tt : TT} {pt : AT} {te : TE} {fe : AE}
theorem ea_lcL (hc : X.calm = true) (hN : X.N.Nodup) (hi : PIa K X tge iter wi ai) (ok : BlkOk X.N X.env.scope scope own)
    (hg : ∀ (s : Shared) (H : Hp) (C : Addr) (cl : List (Str × Addr)) (fp : List Addr), PG (X.blk s H scope (compEnvC scope cl C X.env) fp) tge tg) (hgw : SGw K tg ag (own.map (·.2)))
    (ht : ∀ (s : Shared) (H : Hp) (C : Addr) (cl : List (Str × Addr)) (fp : List Addr), PTsa K (X.blk s H scope (compEnvC scope cl C X.env) fp) ifs tt pt)
    (he : ∀ (s : Shared) (H : Hp) (C : Addr) (cl : List (Str × Addr)) (fp : List Addr), PEa K (X.blk s H scope (compEnvC scope cl C X.env) fp) elt te fe) (hs : ∀ x, foldedSetIterable iter X.env x = pure x := by intro _; rfl) :
    PEa K X (.ListComp elt [⟨tge, iter, ifs, 0⟩] scope pos) (tLc wi tg tt te (own.map (·.2))) (aLcL ai ag pt fe (own.map (·.2))) :=
  ⟨pe_lc hc hN hi.pi ok hg (fun s H C cl fp => (ht s H C cl fp).pt) (fun s H C cl fp => (he s H C cl fp).pe) hs, se_lcL hi.sd hgw (ht ({} : Shared) (fun _ => none) 0 [] []).sd (he ({} : Shared) (fun _ => none) 0 [] []).sd⟩
theorem sa_setLcL {i : Nat} {y : Str} {py spos : Pos} (hc : X.calm = true) (hN : X.N.Nodup) (hy : X.N[i]? = some y) (hyl : X.env.scope.names.lookup y = some .local)
    (hsw : swapsWith (.ListComp elt [⟨tge, iter, ifs, 0⟩] scope pos) (some (.Name y py)) spos.line X.env = pure true) (hi : PIa K X tge iter wi ai) (ok : BlkOk X.N X.env.scope scope own)
    (hg : ∀ (s : Shared) (H : Hp) (C : Addr) (cl : List (Str × Addr)) (fp : List Addr), PG (X.blk s H scope (compEnvC scope cl C X.env) fp) tge tg) (hgw : SGw K tg ag (own.map (·.2)))
    (ht : ∀ (s : Shared) (H : Hp) (C : Addr) (cl : List (Str × Addr)) (fp : List Addr), PTsa K (X.blk s H scope (compEnvC scope cl C X.env) fp) ifs tt pt)
    (he : ∀ (s : Shared) (H : Hp) (C : Addr) (cl : List (Str × Addr)) (fp : List Addr), PEa K (X.blk s H scope (compEnvC scope cl C X.env) fp) elt te fe) (hs : ∀ x, foldedSetIterable iter X.env x = pure x := by intro _; rfl) :
    PSa K X (.Assign [.Name y py] (.ListComp elt [⟨tge, iter, ifs, 0⟩] scope pos) spos) (tAsg (tLc wi tg tt te (own.map (·.2))) (gName i)) (aSet i (aLcL ai ag pt fe (own.map (·.2)))) :=
  ⟨ps_setLc hc hN hy hyl hsw hi.pi ok hg (fun s H C cl fp => (ht s H C cl fp).pt) (fun s H C cl fp => (he s H C cl fp).pe) hs, ss_asg (se_lcL hi.sd hgw (ht ({} : Shared) (fun _ => none) 0 [] []).sd (he ({} : Shared) (fun _ => none) 0 [] []).sd) sg_name⟩
end
/-! ### a list of cells, walked -/
def itL (k : Nat) : AIt := ⟨fun i κ => ∃ xs, κ[k]? = some (.lst xs) ∧ i < xs.length, fun i κ a => ∃ xs, κ[k]? = some (.lst xs) ∧ xs[i]? = some a, fun i κ => ∃ xs, κ[k]? = some (.lst xs) ∧ xs.length ≤ i⟩
theorem reps_get' {as : List AV} {vs : List V} (r : Reps K B ρ as vs) : ∀ {i : Nat} {a : AV}, as[i]? = some a → ∃ v, vs[i]? = some v ∧ Rep K B ρ a v := by
  induction r with
  | nil => intro i a h; cases h
  | cons h _ ih =>
    intro i a e
    cases i with
    | zero => cases e; exact ⟨_, rfl, h⟩
    | succ i => exact ih (i := i) e
theorem ri_lcell {p : Addr} (hp : ρ[k]? = some p) : RI K B ρ H (Itl K p) (itL k) := by
  intro B2 ρ2 κ2 H2 w2 g2 i
  have hp2 := w2.p _ _ hp
  have at' : ∀ {xs}, κ2[k]? = some (.lst xs) → ∃ vs, Reps K B2 ρ2 xs vs ∧ H2 p = some (.lst vs) := fun ek => by
    obtain ⟨p', hp', _, vs, r, eH⟩ := g2.cell ek
    rw [hp2] at hp'; cases hp'
    exact ⟨vs, r, eH⟩
  refine ⟨fun h => ?_, fun h => ?_⟩
  · obtain ⟨xs, ek, hi⟩ := h
    obtain ⟨vs, r, eH⟩ := at' ek
    exact ⟨vs, .inl (.inl eH), by rw [← r.len]; exact hi⟩
  · obtain ⟨xs, ek, hi⟩ := h
    obtain ⟨vs, r, eH⟩ := at' ek
    obtain ⟨w, hw, rw'⟩ := reps_get' r (List.getElem?_eq_getElem hi)
    have hs2 : SqL K H2 p vs := .inl (.inl eH)
    refine ⟨⟨vs, w, hs2, hw⟩, fun x H3 hy => ?_⟩
    obtain ⟨rfl, f⟩ := hy
    have e := (f vs hs2).symm.trans hw
    cases e
    exact ⟨B2, _, Up.refl, g2, rw', xs, ek, List.getElem?_eq_getElem hi⟩
def aIterL (f : AE) : AI := fun δ κ R => f δ κ fun a κ1 => match a with
  | .c k => match κ1[k]? with
    | some (.lst _) => R (itL k) κ1
    | _ => False
  | _ => False
theorem ia_lst {tge : Expr} (h : PEa K X e t f) (hK : X.K = K := by rfl) : PIa K X tge e (iAny K t) (aIterL f) := by
  obtain ⟨K, Kn, KZ, Ku⟩ := K
  change X.K = K at hK
  subst hK
  exact ⟨pi_any h.pe, fun B ρ δ κ σ H R Q s g hh q => h.sd _ _ _ _ _ _ _ _ s g hh fun B1 ρ1 κ1 H1 a v w1 g1 r1 h1 => by
  split at h1
  · obtain ⟨p, hp, rfl⟩ := r1
    split at h1
    · rename_i xs ek
      obtain ⟨p', hp', _, vs, r, eH⟩ := g1.cell ek
      rw [hp] at hp'; cases hp'
      exact .inl ⟨p, rfl, ⟨vs, .inl (.inl eH)⟩, q _ _ _ _ _ _ w1 g1 (ri_lcell hp) h1⟩
    · exact h1.elim
  · exact h1.elim⟩
/-! ### loops over ranges and lists -/
section
variable {ag : AG} {pt : AT} {f : AE} {vs : List Nat} {δ : AD} {κ1 : AK} {R : AR}
theorem lcC_r {lo : Int} {N : Nat} (Pv : Nat → List AV → AK → Prop) (h0 : Pv 0 [] κ1) (hd : ∀ acc κ', Pv N acc κ' → R (.c κ'.length) (κ' ++ [.lst acc]))
    (hs : ∀ i acc κ', i < N → Pv i acc κ' → ag (.d (.int (lo + i))) (wipeA δ vs) κ' fun δ2 κ2 => pt δ2 κ2 fun b κ3 => bsel b (f δ2 κ3 fun y κ4 => acc.length < sizeLine ∧ Pv (i + 1) (acc ++ [y]) κ4) (Pv (i + 1) acc κ3)) : LcC (itR lo N) ag pt f vs δ κ1 R := by
  refine lcC.mpr ⟨fun i m acc κ' => m = N - i ∧ i ≤ N ∧ Pv i acc κ', ⟨_, rfl, Nat.zero_le _, h0⟩, ?_⟩
  rintro i m acc κ' ⟨rfl, hi, p⟩
  by_cases hlt : i < N
  · refine .inr ⟨hlt, Pv (i + 1), fun _ _ q => ⟨N - (i + 1), by omega, rfl, hlt, q⟩, ?_⟩
    rintro a rfl
    exact hs i acc κ' hlt p
  · have e : i = N := by omega
    subst e
    exact .inl ⟨Nat.le_refl _, hd _ _ p⟩
theorem lcL_r {lo : Int} {N : Nat} (Pv : Nat → List PyData → AK → Prop) (h0 : Pv 0 [] κ1) (hd : ∀ acc κ', Pv N acc κ' → R (.c κ'.length) (κ' ++ [.ld acc]))
    (hs : ∀ i acc κ', i < N → Pv i acc κ' → ag (.d (.int (lo + i))) (wipeA δ vs) κ' fun δ2 κ2 => pt δ2 κ2 fun b κ3 => bsel b (f δ2 κ3 fun y κ4 => ∃ d, y = .d d ∧ acc.length < sizeLine ∧ Pv (i + 1) (acc ++ [d]) κ4) (Pv (i + 1) acc κ3)) : LcL (itR lo N) ag pt f vs δ κ1 R := by
  refine lcL.mpr ⟨fun i m acc κ' => m = N - i ∧ i ≤ N ∧ Pv i acc κ', ⟨_, rfl, Nat.zero_le _, h0⟩, ?_⟩
  rintro i m acc κ' ⟨rfl, hi, p⟩
  by_cases hlt : i < N
  · refine .inr ⟨hlt, Pv (i + 1), fun _ _ q => ⟨N - (i + 1), by omega, rfl, hlt, q⟩, ?_⟩
    rintro a rfl
    exact hs i acc κ' hlt p
  · have e : i = N := by omega
    subst e
    exact .inl ⟨Nat.le_refl _, hd _ _ p⟩
/-- data made of a list of cells -/
theorem lc_l {k : Nat} {xs : List AV} (Pv : Nat → List PyData → AK → Prop) (h0 : Pv 0 [] κ1) (hk : ∀ i acc κ', Pv i acc κ' → κ'[k]? = some (.lst xs)) (hd : ∀ acc κ', Pv xs.length acc κ' → R (.d (.list acc)) κ')
    (hs : ∀ i x acc κ', xs[i]? = some x → Pv i acc κ' → ag x (wipeA δ vs) κ' fun δ2 κ2 => pt δ2 κ2 fun b κ3 => bsel b (f δ2 κ3 fun y κ4 => ∃ d, y = .d d ∧ acc.length < sizeLine ∧ Pv (i + 1) (acc ++ [d]) κ4) (Pv (i + 1) acc κ3)) : LcW (itL k) ag pt f vs δ κ1 R := by
  refine lcw.mpr ⟨fun i m acc κ' => m = xs.length - i ∧ i ≤ xs.length ∧ Pv i acc κ', ⟨_, rfl, Nat.zero_le _, h0⟩, ?_⟩
  rintro i m acc κ' ⟨rfl, hi, p⟩
  by_cases hlt : i < xs.length
  · refine .inr ⟨⟨xs, hk _ _ _ p, hlt⟩, Pv (i + 1), fun _ _ q => ⟨xs.length - (i + 1), by omega, rfl, hlt, q⟩, ?_⟩
    rintro a ⟨ys, hy, hx⟩
    rw [hk _ _ _ p] at hy; cases hy
    exact hs i a acc κ' hx p
  · have e : i = xs.length := by omega
    subst e
    exact .inl ⟨⟨xs, hk _ _ _ p, Nat.le_refl _⟩, hd _ _ p⟩
end
end Ab
set_option Elab.async false
set_option linter.all false
set_option maxRecDepth 100000
set_option maxHeartbeats 4000000
/-! Tbl: drawn tables: names, edges -/
namespace Tab
open PySem L2 Ab Com
variable {K : PySem.W.Frag}
theorem bT {b : Bool} {A C : Prop} (e : b = true) (h : A) : bsel b A C := bsel_i (fun _ => h) fun z => by rw [e] at z; cases z
theorem bF {b : Bool} {A C : Prop} (e : b = false) (h : C) : bsel b A C := bsel_i (fun z => by rw [e] at z; cases z) fun _ => h
/-! ### rows of different names -/
theorem nodup_le : ∀ {C T : List Str}, C.Nodup → (∀ x ∈ C, x ∈ T) → C.length ≤ T.length
  | [], _, _, _ => Nat.zero_le _
  | x :: C, T, hn, hs => by
    have hx : x ∈ T := hs x (List.mem_cons_self ..)
    obtain ⟨h1, h2⟩ := List.nodup_cons.mp hn
    have := nodup_le (C := C) (T := T.erase x) h2 fun y hy => (List.mem_erase_of_ne (fun e => h1 (by rw [← e]; exact hy))).mpr (hs y (List.mem_cons_of_mem _ hy))
    rw [List.length_erase_of_mem hx] at this
    have hp := List.length_pos_of_mem hx
    rw [List.length_cons]; omega
/-- the next name that is tried -/
theorem cand {z : Str} {j : Nat} (hz : isName z) (hj : j < 20) : isName (cutS z none (some (9 : Int)) ++ "q" ++ Str.ofString (toString ((j : Nat) : Int))) ∧ (tl (cutS z none (some (9 : Int)) ++ "q" ++ Str.ofString (toString ((j : Nat) : Int)))).getLast? = some (48 + j % 10) := by
  obtain ⟨⟨c, r, e, hc, hr, hl⟩, _⟩ := hz
  have et : tl (cutS z none (some (9 : Int)) ++ "q" ++ Str.ofString (toString ((j : Nat) : Int))) = (c :: r).take 9 ++ [113] ++ TL.numL j := by
    rw [tl_app, tl_app, show (9 : Int) = ((9 : Nat) : Int) from rfl, cut_to, e]
    have h1 : tl (Str.ofString (toString ((j : Nat) : Int))) = TL.numL j := TL.tl_num j
    rw [h1]; rfl
  have hd : ∀ x ∈ TL.numL j, 48 ≤ x ∧ x ≤ 57 := fun x hx => TL.numL_digits j x hx
  have hlen : (TL.numL j).length ≤ 2 := TL.numL_len (by decide) (by omega)
  have hlast : (TL.numL j).getLast? = some (48 + j % 10) := by
    by_cases h : j < 10
    · rw [TL.numL_lt h, Nat.mod_eq_of_lt h]; rfl
    · rw [TL.numL_step (by omega)]; simp
  have hgl : (tl (cutS z none (some (9 : Int)) ++ "q" ++ Str.ofString (toString ((j : Nat) : Int)))).getLast? = some (48 + j % 10) := by
    rw [et, List.getLast?_append, hlast]; rfl
  refine ⟨⟨⟨c, r.take 8 ++ [113] ++ TL.numL j, by rw [et]; rfl, hc, fun x hx => ?_, ?_⟩, fun hw => ?_⟩, hgl⟩
  · rcases List.mem_append.mp hx with hx | hx
    · rcases List.mem_append.mp hx with hx | hx
      · exact hr x (List.mem_of_mem_take hx)
      · rw [List.mem_singleton.mp hx]; unfold Com.run low; omega
    · have := hd x hx; unfold Com.run dig; omega
  · rw [List.length_append, List.length_append, List.length_take, List.length_singleton]; omega
  · have h1 : ∀ w ∈ wordsL, ∀ c, (tl w).getLast? = some c → 97 ≤ c := by decide +kernel
    have := h1 _ hw _ hgl
    omega
def F__law_names : FSp := fun as κ R _ => ∃ (s : Cell) (m : Int) (tk : List Str), as = [.c 0, .d (.int m), .d (.list (tk.map .str))] ∧ κ = [s] ∧ isSt s ∧ 0 ≤ m ∧ m.toNat + tk.length ≤ 9 ∧
  ∀ (zs : List Str) (s' : Cell), isSt s' → zs.length = m.toNat → zs.Nodup → (∀ z ∈ zs, isName z ∧ z ∉ tk) → R (.d (.list (zs.map .str))) [s']
abbrev N__law_names : List Str := ["state", "count", "taken", "names", "k", "name", "j"]
def a__law_names (K : PySem.W.Frag) : AS :=
  (aSeq (aSet 3 (aLst aNil)) (aSeq (aFor (aRng1 (aCons (aVar 1) aNil)) (aName 4) (aSeq (aSet 5 (aCall Tab.F__law_name (fun _ _ => False) (aCons (aVar 0) aNil))) (aSeq (aFor (aRng1 (aCons (aC (.d (.int 20))) aNil)) (aName 6) (aIfS (aOr (aB (aOp (aIn id) (aVar 5) (aVar 3))) (aB (aOp (aIn id) (aVar 5) (aVar 2)))) (aSet 5 (aOp aAdd (aOp aAdd (aSl (aVar 5) aNoPart (aPart (aC (.d (.int 9))))) (aC (.d (.str "q")))) (aCB aStrOf (aCons (aVar 6) aNil)))) aNext)) (aDrop (aBM "list" aAppend (aVar 3) (aCons (aVar 5) aNil)))))) (aRet (aVar 3))))
theorem len__law_names : ∀ as κ R E', F__law_names as κ R E' → as.length = (["state", "count", "taken"] : List Str).length := by
  rintro as κ R E' ⟨s, m, tk, rfl, _⟩; rfl
theorem st2_take {s c : Cell} (h : isSt s) : (([s, c] : AK).take 1).all (okC 1) = true := by
  obtain ⟨ns, i, a, k, b, rfl, _⟩ := h; rfl
theorem name_len {z : Str} (h : isName z) : z.length ≤ 12 := by
  obtain ⟨⟨c, r, e, _, _, hl⟩, _⟩ := h
  rw [tl_len, e, List.length_cons]; omega
theorem apl (a b : Str) : (a ++ b).length = a.length + b.length := by
  rw [tl_len, tl_app, List.length_append, ← tl_len, ← tl_len]
/-- what is known of a name behind i tries -/
def Tried (T : List Str) (i : Nat) (z : Str) : Prop := isName z ∧ (z ∉ T ∨ (i ≤ 10 ∧ ∃ C : List Str, C.length = i - 1 ∧ C.Nodup ∧ (∀ x ∈ C, x ∈ T ∧ ∃ d, d + 1 < i ∧ (tl x).getLast? = some (48 + d)) ∧ (0 < i → (tl z).getLast? = some (48 + (i - 1)))))
theorem tried_next {T : List Str} {i : Nat} {z : Str} (hT : T.length ≤ 9) (hi : i < 20) (h : Tried T i z) (hz : z ∈ T) : Tried T (i + 1) (cutS z none (some (9 : Int)) ++ "q" ++ Str.ofString (toString ((i : Nat) : Int))) := by
  obtain ⟨hn, h⟩ := h
  rcases h with h | ⟨h10, C, hl, hnd, hC, hlast⟩
  · exact absurd hz h
  obtain ⟨c1, c2⟩ := cand hn hi
  refine ⟨c1, .inr ?_⟩
  by_cases h0 : i = 0
  · subst h0
    exact ⟨by decide, [], rfl, .nil, fun x hx => (by cases hx), fun _ => c2⟩
  · have hzC : z ∉ C := fun hm => by
      obtain ⟨_, d, hd, e⟩ := hC z hm
      rw [hlast (by omega)] at e
      have := Option.some.inj e
      omega
    have hnd2 : (z :: C).Nodup := List.nodup_cons.mpr ⟨hzC, hnd⟩
    have hsub : ∀ x ∈ z :: C, x ∈ T := fun x hx => by
      rcases List.mem_cons.mp hx with rfl | hx
      · exact hz
      · exact (hC x hx).1
    have hle := nodup_le hnd2 hsub
    rw [List.length_cons, hl] at hle
    have hi10 : i < 10 := by omega
    rw [Nat.mod_eq_of_lt hi10] at c2
    refine ⟨by omega, z :: C, by rw [List.length_cons, hl]; omega, hnd2, fun x hx => ?_, fun _ => c2⟩
    rcases List.mem_cons.mp hx with rfl | hx
    · exact ⟨hz, i - 1, by omega, hlast (by omega)⟩
    · obtain ⟨a, d, b, e⟩ := hC x hx
      exact ⟨a, d, by omega, e⟩
theorem rd__law_names : ∀ as κ R E', F__law_names as κ R E' → a__law_names K (endsA K κ.length R) (startA N__law_names as) κ := by
  rintro as κ R E' ⟨s, m, tk, rfl, rfl, hs, h0, h1, h⟩
  have L : ∀ {n : Nat}, n ≤ 6000000 → n ≤ sizeLine := fun h => Nat.le_trans h (by decide)
  refine ⟨Nat.zero_le _, ?_⟩
  refine ⟨by omega, by omega, ?_⟩
  refine for_r (fun i δ κ => ∃ s zs x4 x5 x6, δ = [some (.c 0), some (.d (.int m)), some (.d (.list (tk.map .str))), some (.c 1), x4, x5, x6] ∧ κ = [s, .ld (zs.map .str)] ∧ isSt s ∧ zs.length = i ∧ zs.Nodup ∧ ∀ z ∈ zs, isName z ∧ z ∉ tk)
    ⟨s, [], none, none, none, rfl, rfl, hs, rfl, .nil, (fun z hz => by cases hz)⟩ ?_ ?_
  · rintro δ κ ⟨s, zs, x4, x5, x6, rfl, rfl, hs, hl, hnd, hz⟩ _
    exact ⟨_, _, (GhR.freeze (show 1 ≤ 2 by decide) 1 _ rfl).trans (GhR.take 1 (Nat.le_refl _) (show 1 ≤ 2 by decide) (st2_take hs.fz) rfl), h _ _ hs.fz hl hnd hz⟩
  · rintro i δ κ hi ⟨s, zs, x4, x5, x6, rfl, rfl, hs, hl, hnd, hz⟩ _
    refine name_tw hs fun z s1 hs1 hn => ⟨by decide, by decide, ?_⟩
    have hT : (zs ++ tk).length ≤ 9 := by rw [List.length_append]; omega
    refine for_r (fun j δ κ => ∃ z x4 x6, δ = [some (.c 0), some (.d (.int m)), some (.d (.list (tk.map .str))), some (.c 1), x4, some (.d (.str z)), x6] ∧ κ = [s1, .ld (zs.map .str)] ∧ Tried (zs ++ tk) j z)
      ⟨z, _, _, rfl, rfl, hn, .inr ⟨by decide, [], rfl, .nil, (fun x hx => by cases hx), fun h => absurd h (Nat.lt_irrefl _)⟩⟩ ?_ ?_
    · rintro δ κ ⟨z, x4, x6, rfl, rfl, hn, ht⟩ _
      have hnin : z ∉ zs ++ tk := by
        rcases ht with ht | ⟨ht, _⟩
        · exact ht
        · have : (20 : Int).toNat ≤ 10 := ht
          exact absurd this (by decide)
      refine ⟨rfl, ?_, s1, zs ++ [z], _, _, _, rfl, by simp, hs1, by simp [hl], ?_, fun x hx => ?_⟩
      · rw [List.length_map]; exact Nat.lt_of_lt_of_le (show zs.length < 10000 by rw [List.length_append] at hT; omega) (by decide)
      · rw [List.nodup_append]
        refine ⟨hnd, by simp, fun x hx y hy e => ?_⟩
        rw [List.mem_singleton.mp hy] at e
        subst e
        exact hnin (List.mem_append_left _ hx)
      · rcases List.mem_append.mp hx with y | y
        · exact hz x y
        · rw [List.mem_singleton.mp y]; exact ⟨hn, fun z => hnin (List.mem_append_right _ z)⟩
    · rintro j δ κ hj ⟨z, x4, x6, rfl, rfl, ht⟩ _
      have hj : j < 20 := hj
      have hzl := name_len ht.1
      have hcl : (cutS z none (some (9 : Int))).length ≤ 9 := by
        rw [tl_len, show (9 : Int) = ((9 : Nat) : Int) from rfl, cut_to, List.length_take]; omega
      have hql : ("q" : Str).length = 1 := by decide +kernel
      have ej : (0 : Int) + (j : Int) = ((j : Nat) : Int) := Int.zero_add _
      refine ⟨rfl, Ab.flat_strs _, bsel_or (d := id (inD (.str z) (tk.map .str))) (fun hin => ?_) (fun hin => ?_) fun q => ⟨rfl, Ab.flat_strs _, q⟩⟩
      · have hin : (inD (.str z) (zs.map .str) || inD (.str z) (tk.map .str)) = true := hin
        rw [inD_str, inD_str, Bool.or_eq_true, decide_eq_true_eq, decide_eq_true_eq] at hin
        have hm : z ∈ zs ++ tk := List.mem_append.mpr hin
        have hnx := tried_next hT hj ht hm
        have hlj : ((j : Int)).natAbs.log2 < 1920 := by
          show j.log2 < 1920
          by_cases h0 : j = 0
          · rw [h0]; decide
          · exact Nat.lt_of_lt_of_le ((Nat.log2_lt h0).mpr (Nat.lt_trans hj (by decide : 20 < 2 ^ 30))) (by decide)
        have hsl : (Str.ofString (toString ((j : Nat) : Int))).length ≤ 2 := by
          rw [tl_len]
          have h1 : tl (Str.ofString (toString ((j : Nat) : Int))) = TL.numL j := TL.tl_num j
          rw [h1]; exact TL.numL_len (by decide) (by omega)
        rw [← ej] at hlj hsl hnx
        refine ⟨L (by omega), L (by rw [hql]; omega), hlj, L (by rw [apl, hql]; omega), _, _, _, rfl, rfl, hnx⟩
      · have hin : (inD (.str z) (zs.map .str) || inD (.str z) (tk.map .str)) = false := hin
        rw [inD_str, inD_str, Bool.or_eq_false_iff, decide_eq_false_iff_not, decide_eq_false_iff_not] at hin
        exact ⟨z, _, _, rfl, rfl, ht.1, .inl fun hm => (List.mem_append.mp hm).elim hin.1 hin.2⟩
theorem names_tw {s : Cell} {κr : AK} {m : Int} {tk : List Str} {E : AX → AK → Prop} {R : AR} (hs : isSt s) (h0 : 0 ≤ m) (h1 : m.toNat + tk.length ≤ 9)
    (k : ∀ (zs : List Str) (s' : Cell), isSt s' → zs.length = m.toNat → zs.Nodup → (∀ z ∈ zs, isName z ∧ z ∉ tk) → R (.d (.list (zs.map .str))) (s' :: κr)) : callW F__law_names E [.c 0, .d (.int m), .d (.list (tk.map .str))] (s :: κr) R :=
  callW_i ⟨[0], _, _, by decide, rfl, sel0t hs, s, m, tk, rfl, rfl, hs, h0, h1, fun zs s' hs' hl hn hz => ⟨Nat.le_refl _, cl1t hs', rfl, k zs s' hs' hl hn hz⟩⟩
/-! ### an edge -/
structure Act where
  p : Str
  q : Str
  l : Str
deriving DecidableEq
def aK (a : Act) : List L2.Key := [.inr a.p, .inr a.q, .inr a.l]
theorem aK_inj {a b : Act} (h : aK a = aK b) : a = b := by
  obtain ⟨p, q, l⟩ := a
  obtain ⟨p', q', l'⟩ := b
  unfold aK at h
  simp only [List.cons.injEq, Sum.inr.injEq, and_true] at h
  obtain ⟨rfl, rfl, rfl⟩ := h
  rfl
abbrev Row := List (Act × Int)
def rowD (r : Row) : List (List L2.Key × PyData) := r.map fun x => (aK x.1, .int x.2)
structure okA (ps ls : List Str) (a : Act) : Prop where
  p : a.p ∈ ps
  q : a.q ∈ ps
  ne : a.p ≠ a.q
  l : a.l ∈ ls
theorem row_any (r : Row) (a : Act) : ((rowD r).any fun kv => decide (kv.1 = aK a)) = true ↔ a ∈ r.map (·.1) := by
  unfold rowD
  rw [List.any_map, List.any_eq_true, List.mem_map]
  constructor
  · rintro ⟨x, hx, h⟩; exact ⟨x, hx, aK_inj (of_decide_eq_true h)⟩
  · rintro ⟨x, hx, h⟩; exact ⟨x, hx, decide_eq_true (by show aK x.1 = aK a; rw [h])⟩
theorem row_some (r : Row) (a : Act) : (valT (rowD r) (aK a)).isSome = true ↔ a ∈ r.map (·.1) := by
  rw [← row_any]
  unfold valT
  rw [Option.isSome_map, List.find?_isSome, List.any_eq_true]
theorem row_put {r : Row} {a : Act} {g : Int} (h : a ∉ r.map (·.1)) : putT (rowD r) (aK a) (.int g) = rowD (r ++ [(a, g)]) := by
  unfold putT
  rw [if_neg (fun e => h ((row_any r a).mp e))]
  unfold rowD
  rw [List.map_append]; rfl
def F__law_edge : FSp := fun as κ R _ => ∃ (s : Cell) (r : Row) (ps ls : List Str) (g : Int), as = [.c 0, .c 1, .d (.list (ps.map .str)), .d (.list (ls.map .str)), .d (.int g)] ∧ κ = [s, .dT (rowD r)] ∧ isSt s ∧
  2 ≤ ps.length ∧ ps.length ≤ 1000 ∧ 1 ≤ ls.length ∧ ls.length ≤ 1000 ∧ ps.Nodup ∧ r.length ≤ 1000000 ∧
  ∀ s' r', isSt s' → ((r' = r ∧ r ≠ []) ∨ ∃ a, okA ps ls a ∧ a ∉ r.map (·.1) ∧ r' = r ++ [(a, g)]) → R (.d .none) [s', .dT (rowD r')]
abbrev N__law_edge : List Str := ["state", "row", "parties", "labels", "goal", "sender", "taker", "action", "label"]
def a__law_edge (K : PySem.W.Frag) : AS :=
  (aSeq (aSet 5 (aCall Tab.F__law_draw (fun _ _ => False) (aCons (aVar 0) (aCons (aCB aLen (aCons (aVar 2) aNil)) aNil)))) (aSeq (aSet 6 (aOp aMod (aCB aIntOf (aCons (aOp aAdd (aOp aAdd (aVar 5) (aC (.d (.int 1)))) (aCall Tab.F__law_draw (fun _ _ => False) (aCons (aVar 0) (aCons (aOp aSub (aCB aLen (aCons (aVar 2) aNil)) (aC (.d (.int 1)))) aNil)))) aNil)) (aCB aLen (aCons (aVar 2) aNil)))) (aSeq (aSet 7 (aTupC (aCons (aOp aIx (aVar 2) (aVar 5)) (aCons (aOp aIx (aVar 2) (aVar 6)) (aCons (aOp aIx (aVar 3) (aCall Tab.F__law_draw (fun _ _ => False) (aCons (aVar 0) (aCons (aCB aLen (aCons (aVar 3) aNil)) aNil)))) aNil))))) (aSeq (aFor (aIter (aVar 3)) (aName 8) (aIfS (aB (aTIn id (aVar 7) (aVar 1))) (aSet 7 (aTupC (aCons (aOp aIx (aVar 7) (aC (.d (.int 0)))) (aCons (aOp aIx (aVar 7) (aC (.d (.int 1)))) (aCons (aVar 8) aNil))))) aNext)) (aIfS (aB (aTIn not (aVar 7) (aVar 1))) (aTPut (aVar 1) (aVar 7) (aVar 4)) aNext)))))
theorem len__law_edge : ∀ as κ R E', F__law_edge as κ R E' → as.length = (["state", "row", "parties", "labels", "goal"] : List Str).length := by
  rintro as κ R E' ⟨s, r, ps, ls, g, rfl, _⟩; rfl
theorem ix_tup {κ : AK} {j : Nat} {xs : List AV} {i : Int} {R : AR} (h : κ[j]? = some (.tup xs)) {w : AV} (hw : atI xs i = some w) (k : R w κ) : aIx (.c j) (.d (.int i)) κ R := by
  unfold aIx
  simp only [h]
  exact ⟨w, hw, k⟩
abbrev keyA (a : Act) : List AV := ((aK a).map keyD).map .d
theorem take_row {s : Cell} {r : Row} {κt : AK} (h : isSt s) : (((s :: .dT (rowD r) :: κt : AK)).take 2).all (okC 2) = true := by
  show (okC 2 s && (okC 2 (.dT (rowD r)) && true)) = true
  rw [h.ok]; rfl
theorem tupc3 {A : AEnds} {δ : AD} {κ : AK} {j : Nat} {a : Act} {l : Str} (h7 : δ[7]? = some (some (.c j))) (hj : κ[j]? = some (.tup (keyA a))) (h8 : δ[8]? = some (some (.d (.str l)))) (k : A.nx (δ.set 7 (some (.c κ.length))) (κ ++ [.tup (keyA ⟨a.p, a.q, l⟩)])) :
    (aSet 7 (aTupC (aCons (aOp aIx (aVar 7) (aC (.d (.int 0)))) (aCons (aOp aIx (aVar 7) (aC (.d (.int 1)))) (aCons (aVar 8) aNil))))) A δ κ := by
  have e1 : aVar 7 = aVar 7 := rfl
  have hv : ∀ (R : AR), aVar 7 δ κ R = R (.c j) κ := fun R => by unfold aVar; rw [h7]
  have hv8 : ∀ (R : AR), aVar 8 δ κ R = R (.d (.str l)) κ := fun R => by unfold aVar; rw [h8]
  simp only [aSet, aAsg, aTupC, aCons, aOp, aC, aNil, aName]
  rw [hv]
  refine ix_tup hj (w := .d (.str a.p)) (at_nat (j := 0) rfl) ?_
  rw [hv]
  refine ix_tup hj (w := .d (.str a.q)) (at_nat (j := 1) rfl) ?_
  rw [hv8]
  exact ⟨(show 3 ≤ sizeLine by decide), k⟩
theorem rd__law_edge : ∀ as κ R E', F__law_edge as κ R E' → a__law_edge K (endsA K κ.length R) (startA N__law_edge as) κ := by
  rintro as κ R E' ⟨s, r, ps, ls, g, rfl, rfl, hs, hp2, hp3, hl1, hl2, hnd, hr, h⟩
  have lp : (ps.map PyData.str).length = ps.length := List.length_map ..
  have ll : (ls.map PyData.str).length = ls.length := List.length_map ..
  have atS : ∀ (xs : List Str) (v : Int), 0 ≤ v → v < xs.length → ∃ x, atI (xs.map PyData.str) v = some (.str x) ∧ x ∈ xs ∧ xs[v.toNat]? = some x := fun xs v h0 h1 => by
    obtain ⟨x, _, h3, h4⟩ := at_mem (xs := xs) h0 h1
    obtain ⟨j, rfl⟩ := Int.eq_ofNat_of_zero_le h0
    exact ⟨x, at_nat (by rw [List.getElem?_map, show xs[j]? = some x from by simpa using h4]; rfl), h3, h4⟩
  refine draw_w hs (by rw [lp]; omega) (by rw [lp]; omega) fun v s1 hs1 v0 v1 => ?_
  rw [lp] at v1
  refine draw_w hs1 (by rw [lp]; show (0 : Int) < (ps.length : Int) - 1; omega) (by rw [lp]; show (ps.length : Int) - 1 < 1073741824; omega) fun w s2 hs2 w0 w1 => ⟨(by rw [lp]; omega), ?_⟩
  have w1 : w < (ps.length : Int) - 1 := by rw [lp] at w1; exact w1
  obtain ⟨p, a1, p1, p2⟩ := atS ps v v0 v1
  have ht0 := Int.emod_nonneg (v + 1 + w) (show (ps.length : Int) ≠ 0 by omega)
  have ht1 := Int.emod_lt_of_pos (v + 1 + w) (show (0 : Int) < ps.length by omega)
  obtain ⟨q, b1, q1, q2⟩ := atS ps _ ht0 ht1
  have hne : p ≠ q := by
    rintro rfl
    have e1 : v.toNat = ((v + 1 + w) % (ps.length : Int)).toNat := by
      have hlt1 := (List.getElem?_eq_some_iff.mp p2).1
      exact (List.getElem?_inj hlt1 hnd).mp (p2.trans q2.symm)
    have e2 : v = (v + 1 + w) % (ps.length : Int) := by omega
    by_cases hc : v + 1 + w < ps.length
    · rw [Int.emod_eq_of_lt (by omega) hc] at e2; omega
    · have : (v + 1 + w) % (ps.length : Int) = v + 1 + w - ps.length := by
        rw [← Int.sub_emod_right, Int.emod_eq_of_lt (by omega) (by omega)]
      omega
  refine ⟨_, a1, _, (by show atI _ ((v + 1 + w) % ((ps.map PyData.str).length : Int)) = _; rw [lp]; exact b1), ?_⟩
  refine draw_w hs2 (by rw [ll]; omega) (by rw [ll]; omega) fun x s3 hs3 x0 x1 => ?_
  rw [ll] at x1
  obtain ⟨l, c1, l1, _⟩ := atS ls x x0 x1
  refine ⟨_, c1, (show 3 ≤ sizeLine by decide), ?_⟩
  refine for_d (fun i δ κ => ∃ (κt : AK) (j : Nat) (a : Act) (x8 : Option AV), δ = [some (.c 0), some (.c 1), some (.d (.list (ps.map .str))), some (.d (.list (ls.map .str))), some (.d (.int g)), some (.d (.int v)), some (.d (.int ((v + 1 + w) % ((ps.map PyData.str).length : Int)))), some (.c j), x8] ∧ κ = s3 :: .dT (rowD r) :: κt ∧ κ[j]? = some (.tup (keyA a)) ∧ okA ps ls a)
    ⟨_, 2, ⟨p, q, l⟩, none, rfl, rfl, rfl, p1, q1, hne, l1⟩ ?_ ?_
  · rintro δ κ ⟨κt, j, a, x8, rfl, rfl, hj, ha⟩ _
    refine ⟨rowD r, aK a, rfl, ⟨j, rfl, hj⟩, bsel_i (fun ht => ?_) fun hf => ?_⟩
    · have ht : (!(valT (rowD r) (aK a)).isSome) = true := ht
      have hna : a ∉ r.map (·.1) := fun hm => by
        rw [(row_some r a).mpr hm] at ht; cases ht
      refine ⟨rowD r, aK a, .int g, rfl, ⟨j, rfl, hj⟩, rfl, ?_, ?_⟩
      · unfold rowD; rw [List.length_map]; exact Nat.lt_of_le_of_lt hr (by decide)
      · refine ⟨_, _, GhR.take 2 (Nat.le_refl _) (by show 2 ≤ κt.length + 2; omega) ?_ rfl, ?_⟩
        · show (((s3 :: .dT (putT (rowD r) (aK a) (.int g)) :: κt : AK)).take 2).all (okC 2) = true
          rw [row_put hna]; exact take_row hs3
        · show R (.d .none) [s3, .dT (putT (rowD r) (aK a) (.int g))]
          rw [row_put hna]
          exact h s3 _ hs3 (.inr ⟨a, ha, hna, rfl⟩)
    · have hf : (!(valT (rowD r) (aK a)).isSome) = false := hf
      have hm : a ∈ r.map (·.1) := (row_some r a).mp (by simpa using hf)
      refine ⟨_, _, GhR.take 2 (Nat.le_refl _) (by show 2 ≤ κt.length + 2; omega) (take_row hs3) rfl, h s3 r hs3 (.inl ⟨rfl, fun e => ?_⟩)⟩
      rw [e] at hm; cases hm
  · rintro i y δ κ hy ⟨κt, j, a, x8, rfl, rfl, hj, ha⟩ _
    rw [List.getElem?_map] at hy
    obtain ⟨l', hl', rfl⟩ := Option.map_eq_some_iff.mp hy
    refine ⟨rowD r, aK a, rfl, ⟨j, rfl, hj⟩, bsel_i (fun _ => ?_) fun _ => ⟨κt, j, a, _, rfl, rfl, hj, ha⟩⟩
    refine tupc3 rfl hj rfl ?_
    refine ⟨κt ++ [.tup (keyA ⟨a.p, a.q, l'⟩)], _, ⟨a.p, a.q, l'⟩, _, rfl, rfl, ?_, ha.p, ha.q, ha.ne, List.mem_of_getElem? hl'⟩
    show ((s3 :: .dT (rowD r) :: κt : AK) ++ [.tup (keyA ⟨a.p, a.q, l'⟩)])[(s3 :: .dT (rowD r) :: κt : AK).length]? = _
    rw [List.getElem?_append_right (Nat.le_refl _), Nat.sub_self]; rfl
theorem edge_w {κ : AK} {s : Cell} {j : Nat} {r : Row} {ps ls : List Str} {g : Int} {E : AX → AK → Prop} {R : AR} (h0 : κ[0]? = some s) (hj : κ[j]? = some (.dT (rowD r))) (hj0 : j ≠ 0) (hs : isSt s) (p2 : 2 ≤ ps.length) (p3 : ps.length ≤ 1000) (l1 : 1 ≤ ls.length) (l2 : ls.length ≤ 1000) (nd : ps.Nodup) (hr : r.length ≤ 1000000)
    (k : ∀ s' r', isSt s' → ((r' = r ∧ r ≠ []) ∨ ∃ a, okA ps ls a ∧ a ∉ r.map (·.1) ∧ r' = r ++ [(a, g)]) → R (.d .none) ((κ.set 0 s').set j (.dT (rowD r')))) : callW F__law_edge E [.c 0, .c j, .d (.list (ps.map .str)), .d (.list (ls.map .str)), .d (.int g)] κ R := by
  have hj1 : ¬ 0 = j := fun e => hj0 e.symm
  refine callW_i ⟨[0, j], [.c 0, .c 1, .d (.list (ps.map .str)), .d (.list (ls.map .str)), .d (.int g)], [s, .dT (rowD r)], ?_, ?_, ?_, s, r, ps, ls, g, rfl, rfl, hs, p2, p3, l1, l2, nd, hr, fun s' r' hs' hr' => ⟨Nat.le_refl _, ?_, rfl, k s' r' hs' hr'⟩⟩
  · simp [hj1]
  · simp [selAs, selA, posIn, hj1]
  · have hc : clC s = true := hs.cl.1
    have hd : clC (.dT (rowD r)) = true := rfl
    simp [selK, h0, hj, hc, hd]
  · show (clC s' && (true && true)) = true
    rw [hs'.cl.1]; rfl
theorem ix_lst {κ : AK} {j : Nat} {xs : List AV} {i : Int} {R : AR} (h : κ[j]? = some (.lst xs)) {w : AV} (hw : atI xs i = some w) (k : R w κ) : aIx (.c j) (.d (.int i)) κ R := by
  unfold aIx
  simp only [h]
  exact ⟨w, hw, k⟩
/-! ### a table -/
def rowC (r : Row) : Cell := .dT (rowD r)
def cs (n : Nat) : List AV := (List.range n).map fun i => AV.c (i + 1)
theorem cs_succ (n : Nat) : cs (n + 1) = cs n ++ [.c (n + 1)] := by unfold cs; rw [List.range_succ, List.map_append]; rfl
theorem cs_at {n k : Nat} (h : k < n) : atI (cs n) (k : Int) = some (.c (k + 1)) := at_nat (by unfold cs; rw [List.getElem?_map, List.getElem?_range h]; rfl)
def kap (s : Cell) (rs : List Row) : AK := s :: (rs.map rowC ++ [.lst (cs rs.length)])
theorem kap_lst (s : Cell) (rs : List Row) : (kap s rs)[rs.length + 1]? = some (.lst (cs rs.length)) := by
  unfold kap
  rw [List.getElem?_cons_succ, List.getElem?_append_right (by rw [List.length_map]; exact Nat.le_refl _), List.length_map, Nat.sub_self]; rfl
theorem kap_row {s : Cell} {rs : List Row} {k : Nat} {r : Row} (h : rs[k]? = some r) : (kap s rs)[k + 1]? = some (.dT (rowD r)) := by
  have hk := (List.getElem?_eq_some_iff.mp h).1
  unfold kap
  rw [List.getElem?_cons_succ, List.getElem?_append_left (by rw [List.length_map]; exact hk), List.getElem?_map, h]; rfl
theorem kap_set {s s' : Cell} {rs : List Row} {k : Nat} {r : Row} (h : k < rs.length) : ((kap s rs).set 0 s').set (k + 1) (.dT (rowD r)) = kap s' (rs.set k r) := by
  unfold kap
  rw [List.set_cons_zero, List.set_cons_succ, List.set_append_left _ _ (by rw [List.length_map]; exact h), List.map_set, List.length_set]; rfl
/-- rows as they are built: n goals; the first i have their edge to the next -/
structure okRow (ps ls : List Str) (n : Nat) (r : Row) : Prop where
  a : ∀ x ∈ r, okA ps ls x.1 ∧ 0 ≤ x.2 ∧ x.2 < n
  nd : (r.map (·.1)).Nodup
structure Rows1 (ps ls : List Str) (n i : Nat) (rs : List Row) : Prop where
  len : rs.length = n
  ok : ∀ r ∈ rs, okRow ps ls n r ∧ r.length ≤ 1
  edge : ∀ k r, k < i → rs[k]? = some r → ∃ a, (a, ((k + 1 : Nat) : Int)) ∈ r
  rest : ∀ k r, i ≤ k → rs[k]? = some r → r = []
structure Rows2 (ps ls : List Str) (n b : Nat) (rs : List Row) : Prop where
  len : rs.length = n
  ok : ∀ r ∈ rs, okRow ps ls n r ∧ r.length ≤ b
  edge : ∀ k r, k + 1 < n → rs[k]? = some r → ∃ a, (a, ((k + 1 : Nat) : Int)) ∈ r
theorem okRow_snoc {ps ls : List Str} {n : Nat} {r : Row} {a : Act} {g : Int} (h : okRow ps ls n r) (ha : okA ps ls a) (hna : a ∉ r.map (·.1)) (h0 : 0 ≤ g) (h1 : g < n) : okRow ps ls n (r ++ [(a, g)]) := by
  refine ⟨fun x hx => ?_, ?_⟩
  · rcases List.mem_append.mp hx with hx | hx
    · exact h.a x hx
    · rw [List.mem_singleton.mp hx]; exact ⟨ha, h0, h1⟩
  · rw [List.map_append, List.nodup_append]
    refine ⟨h.nd, by simp, fun x hx y hy e => ?_⟩
    have hy : y = a := by simpa using hy
    rw [hy] at e
    subst e; exact hna hx
theorem set_cases {rs : List Row} {k j : Nat} {r r2 : Row} (h : (rs.set k r)[j]? = some r2) : (j = k ∧ r2 = r) ∨ (j ≠ k ∧ rs[j]? = some r2) := by
  by_cases e : k = j
  · subst e
    have hl : k < rs.length := by
      have := (List.getElem?_eq_some_iff.mp h).1
      rwa [List.length_set] at this
    rw [List.getElem?_set_self hl] at h
    exact .inl ⟨rfl, (Option.some.inj h).symm⟩
  · rw [List.getElem?_set_ne e] at h
    exact .inr ⟨fun z => e z.symm, h⟩
theorem mem_set {rs : List Row} {k : Nat} {r r2 : Row} (h : r2 ∈ rs.set k r) : r2 = r ∨ r2 ∈ rs := by
  obtain ⟨j, hj⟩ := List.mem_iff_getElem?.mp h
  rcases set_cases hj with ⟨_, e⟩ | ⟨_, e⟩
  · exact .inl e
  · exact .inr (List.mem_of_getElem? e)
theorem rows1_next {ps ls : List Str} {n i : Nat} {rs : List Row} {a : Act} (h : Rows1 ps ls n i rs) (hi : i + 1 < n) (ha : okA ps ls a) : Rows1 ps ls n (i + 1) (rs.set i [(a, ((i + 1 : Nat) : Int))]) := by
  refine ⟨by rw [List.length_set]; exact h.len, fun r hr => ?_, fun k r hk hr => ?_, fun k r hk hr => ?_⟩
  · rcases mem_set hr with rfl | hr
    · refine ⟨⟨fun x hx => ?_, by simp⟩, Nat.le_refl _⟩
      rw [List.mem_singleton.mp hx]
      exact ⟨ha, Int.natCast_nonneg _, by show ((i + 1 : Nat) : Int) < n; omega⟩
    · exact h.ok r hr
  · rcases set_cases hr with ⟨rfl, rfl⟩ | ⟨hne, hr⟩
    · exact ⟨a, List.mem_singleton.mpr rfl⟩
    · exact h.edge k r (by omega) hr
  · rcases set_cases hr with ⟨rfl, rfl⟩ | ⟨hne, hr⟩
    · omega
    · exact h.rest k r (by omega) hr
theorem rows2_next {ps ls : List Str} {n b k : Nat} {rs : List Row} {r r' : Row} {g : Int} (h : Rows2 ps ls n b rs) (hr : rs[k]? = some r) (g0 : 0 ≤ g) (g1 : g < n) (hr' : (r' = r ∧ r ≠ []) ∨ ∃ a, okA ps ls a ∧ a ∉ r.map (·.1) ∧ r' = r ++ [(a, g)]) : Rows2 ps ls n (b + 1) (rs.set k r') := by
  obtain ⟨o1, o2⟩ := h.ok r (List.mem_of_getElem? hr)
  refine ⟨by rw [List.length_set]; exact h.len, fun r2 hr2 => ?_, fun j r2 hj hr2 => ?_⟩
  · rcases mem_set hr2 with rfl | hr2
    · rcases hr' with ⟨rfl, _⟩ | ⟨a, ha, hna, rfl⟩
      · exact ⟨o1, by omega⟩
      · exact ⟨okRow_snoc o1 ha hna g0 g1, by rw [List.length_append, List.length_singleton]; omega⟩
    · obtain ⟨q1, q2⟩ := h.ok r2 hr2
      exact ⟨q1, by omega⟩
  · rcases set_cases hr2 with ⟨rfl, rfl⟩ | ⟨hne, hr2⟩
    · obtain ⟨a, ha⟩ := h.edge j r hj hr
      rcases hr' with ⟨rfl, _⟩ | ⟨a2, _, _, rfl⟩
      · exact ⟨a, ha⟩
      · exact ⟨a, List.mem_append_left _ ha⟩
    · exact h.edge j r2 hj hr2
/-! ### reading at places that are variables -/
theorem avr {δ : AD} {κ : AK} {k : Nat} {a : AV} {R : AR} (h : δ[k]? = some (some a)) : aVar k δ κ R = R a κ := by unfold aVar; rw [h]
theorem edge1 {A : AEnds} {δ : AD} {κ : AK} {j4 j : Nat} {v : Int} {xs : List AV} {d1 d2 : PyData} (h0 : δ[0]? = some (some (.c 0))) (h1 : δ[1]? = some (some (.d d1))) (h2 : δ[2]? = some (some (.d d2))) (h4 : δ[4]? = some (some (.c j4))) (h5 : δ[5]? = some (some (.d (.int v)))) (hl : κ[j4]? = some (.lst xs)) (hx : atI xs v = some (.c j))
    (k : callW F__law_edge (fun _ _ => False) [.c 0, .c j, .d d1, .d d2, .d (.int (v + 1))] κ fun _ κ1 => A.nx δ κ1) :
    (aDrop (aCall F__law_edge (fun _ _ => False) (aCons (aVar 0) (aCons (aOp aIx (aVar 4) (aVar 5)) (aCons (aVar 1) (aCons (aVar 2) (aCons (aOp aAdd (aVar 5) (aC (.d (.int 1)))) aNil))))))) A δ κ := by
  simp only [aDrop, aCall, aCons, aOp, aC, aNil]
  rw [avr h0, avr h4, avr h5]
  refine ix_lst hl hx ?_
  rw [avr h1, avr h2, avr h5]
  exact k
theorem edge1k {A : AEnds} {δ : AD} {s : Cell} {rs : List Row} {ps ls : List Str} {k : Nat} {r : Row} {v : Int} (h0 : δ[0]? = some (some (.c 0))) (h1 : δ[1]? = some (some (.d (.list (ps.map .str))))) (h2 : δ[2]? = some (some (.d (.list (ls.map .str))))) (h4 : δ[4]? = some (some (.c (rs.length + 1)))) (h5 : δ[5]? = some (some (.d (.int v)))) (hv : v = (k : Int))
    (hr : rs[k]? = some r) (hs : isSt s) (p2 : 2 ≤ ps.length) (p3 : ps.length ≤ 1000) (l1 : 1 ≤ ls.length) (l2 : ls.length ≤ 1000) (nd : ps.Nodup) (hl : r.length ≤ 1000000)
    (kk : ∀ s' r', isSt s' → ((r' = r ∧ r ≠ []) ∨ ∃ a, okA ps ls a ∧ a ∉ r.map (·.1) ∧ r' = r ++ [(a, ((k + 1 : Nat) : Int))]) → A.nx δ (kap s' (rs.set k r'))) :
    (aDrop (aCall F__law_edge (fun _ _ => False) (aCons (aVar 0) (aCons (aOp aIx (aVar 4) (aVar 5)) (aCons (aVar 1) (aCons (aVar 2) (aCons (aOp aAdd (aVar 5) (aC (.d (.int 1)))) aNil))))))) A δ (kap s rs) := by
  subst hv
  have hk := (List.getElem?_eq_some_iff.mp hr).1
  refine edge1 h0 h1 h2 h4 h5 (kap_lst s rs) (cs_at hk) ?_
  refine edge_w (s := s) rfl (kap_row hr) (by omega) hs p2 p3 l1 l2 nd hl fun s' r' hs' hr' => ?_
  rw [kap_set hk]
  exact kk s' r' hs' hr'
theorem edge2k {A : AEnds} {δ : AD} {s : Cell} {rs : List Row} {ps ls : List Str} {n : Nat} (h0 : δ[0]? = some (some (.c 0))) (h1 : δ[1]? = some (some (.d (.list (ps.map .str))))) (h2 : δ[2]? = some (some (.d (.list (ls.map .str))))) (h3 : δ[3]? = some (some (.d (.int (n : Nat))))) (h4 : δ[4]? = some (some (.c (rs.length + 1))))
    (hn : rs.length = n) (hn0 : 0 < n) (hn1 : n ≤ 1000) (hs : isSt s) (p2 : 2 ≤ ps.length) (p3 : ps.length ≤ 1000) (l1 : 1 ≤ ls.length) (l2 : ls.length ≤ 1000) (nd : ps.Nodup) (hl : ∀ r ∈ rs, r.length ≤ 1000000)
    (kk : ∀ s' k r g r', isSt s' → rs[k]? = some r → 0 ≤ g → g < (n : Int) → ((r' = r ∧ r ≠ []) ∨ ∃ a, okA ps ls a ∧ a ∉ r.map (·.1) ∧ r' = r ++ [(a, g)]) → A.nx δ (kap s' (rs.set k r'))) :
    (aDrop (aCall F__law_edge (fun _ _ => False) (aCons (aVar 0) (aCons (aOp aIx (aVar 4) (aCall Tab.F__law_draw (fun _ _ => False) (aCons (aVar 0) (aCons (aVar 3) aNil)))) (aCons (aVar 1) (aCons (aVar 2) (aCons (aCall Tab.F__law_draw (fun _ _ => False) (aCons (aVar 0) (aCons (aVar 3) aNil))) aNil))))))) A δ (kap s rs) := by
  simp only [aDrop, aCall, aCons, aOp, aC, aNil]
  rw [avr h0, avr h4, avr h0, avr h3]
  refine draw_w (s := s) (m := (n : Int)) (κr := rs.map rowC ++ [.lst (cs rs.length)]) hs (by omega) (by omega) fun v s1 hs1 v0 v1 => ?_
  obtain ⟨k, rfl⟩ := Int.eq_ofNat_of_zero_le v0
  have hk : k < rs.length := by omega
  have hr : rs[k]? = some rs[k] := List.getElem?_eq_getElem hk
  refine ix_lst (kap_lst s1 rs) (cs_at hk) ?_
  rw [avr h1, avr h2, avr h0, avr h3]
  refine draw_w (s := s1) (m := (n : Int)) (κr := rs.map rowC ++ [.lst (cs rs.length)]) hs1 (by omega) (by omega) fun g s2 hs2 g0 g1 => ?_
  refine edge_w (s := s2) (κ := kap s2 rs) rfl (kap_row hr) (by omega) hs2 p2 p3 l1 l2 nd (hl _ (List.getElem_mem hk)) fun s' r' hs' hr' => ?_
  rw [kap_set hk]
  exact kk s' k _ g r' hs' hr g0 g1 hr'
theorem set6 {A : AEnds} {δ : AD} {κ : AK} {j m : Nat} {n : Int} {xs : List PyData} (h6 : δ[6]? = some (some (.c j))) (h3 : δ[3]? = some (some (.d (.int n)))) (hj : κ[j]? = some (.ld xs)) (hi : ixN xs.length (n - 1) = some m) (k : A.nx δ (κ.set j (.ld (xs.set m (.bool true))))) :
    (aAsg (aC (.d (.bool true))) (aGSub (aVar 6) (aOp aSub (aVar 3) (aC (.d (.int 1)))) aSetL)) A δ κ := by
  simp only [aAsg, aC, aGSub, aOp]
  rw [avr h6, avr h3]
  show aSetL (.c j) (.d (.int (n - 1))) (.d (.bool true)) κ _
  unfold aSetL
  simp only [hj]
  exact ⟨m, hi, k⟩
theorem sort_dT {κ : AK} {j : Nat} {kvs : List (List L2.Key × PyData)} {R : AR} (h : κ[j]? = some (.dT kvs)) (shape : Nat → Bool) (hs : ∀ kv ∈ kvs, okSh shape 0 kv.1 ∧ kv.1 ≠ []) (k : ∀ ys : List (List L2.Key), ys.Perm (kvs.map (·.1)) → SrtKs ys → R (.d (.list (ys.map fun k => .tuple (k.map keyD)))) κ) : aSort [.c j] κ R := by
  unfold aSort
  simp only [h]
  exact ⟨shape, hs, k⟩
def entT (x : Act × Int) : PyData := .tuple [.tuple ((aK x.1).map keyD), .int x.2]
def rowT (r : Row) : PyData := .tuple (r.map entT)
/-- a row with its keys ascending -/
def Asc (r : Row) : Prop := SrtKs (r.map fun x => aK x.1)
theorem row_val {r : Row} (nd : (r.map (·.1)).Nodup) {x : Act × Int} (hx : x ∈ r) : valT (rowD r) (aK x.1) = some (.int x.2) := by
  induction r with
  | nil => cases hx
  | cons y r ih =>
    obtain ⟨h1, h2⟩ := List.nodup_cons.mp nd
    show valT ((aK y.1, .int y.2) :: rowD r) (aK x.1) = _
    rcases List.mem_cons.mp hx with rfl | hx
    · exact valT_pos rfl
    · rw [valT_neg fun e => h1 (by show y.1 ∈ _; rw [aK_inj e]; exact List.mem_map.mpr ⟨x, hx, rfl⟩)]
      exact ih h2 hx
theorem inner {x0 x1 x2 x3 x4 x5 x6 x8 : Option AV} {κ : AK} {j : Nat} {r : Row} {R : AR} (hj : κ[j]? = some (.dT (rowD r))) (nd : (r.map (·.1)).Nodup) (hr : r.length ≤ 1000000) (k : ∀ r', r'.Perm r → Asc r' → R (.d (rowT r')) κ) :
    (aCB aTupOf (aCons (aLc (aIter (aCB aSort (aCons (aVar 7) aNil))) (aName 8) aYes (aTup (aCons (aVar 8) (aCons (aTGet (aVar 7) (aVar 8)) aNil))) [8]) aNil)) [x0, x1, x2, x3, x4, x5, x6, some (.c j), x8] κ R := by
  simp only [aCB, aCons, aNil, aLc, aIter]
  rw [avr (k := 7) (a := .c j) rfl]
  refine sort_dT hj (fun _ => true) (fun kv hkv => ?_) fun ys hp hsr => ?_
  · obtain ⟨x, _, rfl⟩ := List.mem_map.mp hkv
    exact ⟨⟨rfl, rfl, rfl, trivial⟩, by unfold aK; simp⟩
  · have em : r.map (fun x => aK x.1) = (rowD r).map (·.1) := by unfold rowD; rw [List.map_map]; rfl
    obtain ⟨r', p', e'⟩ := L2.perm_lift (fun x : Act × Int => aK x.1) hp r em
    subst e'
    have hl := p'.length_eq
    show LcW (itD ((r'.map fun x => aK x.1).map fun k => .tuple (k.map keyD))) _ _ _ _ _ _ _
    refine lc_d (fun i acc κ' => κ' = κ ∧ acc = (r'.take i).map entT) ⟨rfl, rfl⟩ ?_ ?_
    · rintro acc κ' ⟨rfl, rfl⟩
      rw [List.length_map, List.length_map, List.take_length]
      exact ⟨_, rfl, k r' p' hsr⟩
    · rintro i d acc κ' hd ⟨rfl, rfl⟩
      rw [List.getElem?_map, List.getElem?_map] at hd
      obtain ⟨ky, h1, rfl⟩ := Option.map_eq_some_iff.mp hd
      obtain ⟨x, hx, rfl⟩ := Option.map_eq_some_iff.mp h1
      have hm := p'.mem_iff.mp (List.mem_of_getElem? hx)
      refine ⟨rowD r, aK x.1, .int x.2, hj, .inl rfl, row_val nd hm, (show 2 ≤ sizeLine by decide), _, rfl, ?_, rfl, ?_⟩
      · rw [List.length_map, List.length_take]
        exact Nat.lt_of_le_of_lt (show min i r'.length ≤ 1000000 by omega) (by decide)
      · rw [List.take_succ, hx, List.map_append]; rfl
/-! ### a drawn table -/
def tabD (rs : List Row) (bs : List Bool) : PyData := .tuple [.str "table", .tuple (rs.map rowT), .tuple (bs.map .bool)]
structure okTab (ps ls : List Str) (n : Nat) (rs : List Row) (bs : List Bool) : Prop where
  len : rs.length = n
  bl : bs.length = n
  ok : ∀ r ∈ rs, okRow ps ls n r ∧ Asc r ∧ r.length ≤ 2 * n + 1
  edge : ∀ k r, k + 1 < n → rs[k]? = some r → ∃ a, (a, ((k + 1 : Nat) : Int)) ∈ r
  last : bs[n - 1]? = some true
def F__law_table : FSp := fun as κ R _ => ∃ (s : Cell) (ps ls : List Str) (n : Nat), as = [.c 0, .d (.list (ps.map .str)), .d (.list (ls.map .str)), .d (.int (n : Nat))] ∧ κ = [s] ∧ isSt s ∧ 2 ≤ ps.length ∧ ps.length ≤ 1000 ∧ 1 ≤ ls.length ∧ ls.length ≤ 1000 ∧ ps.Nodup ∧ 1 ≤ n ∧ n ≤ 100 ∧
  ∀ s' rs bs, isSt s' → okTab ps ls n rs bs → R (.d (tabD rs bs)) [s']
abbrev N__law_table : List Str := ["state", "parties", "labels", "size", "rows", "k", "ends", "row", "x"]
def a__law_table (K : PySem.W.Frag) : AS :=
  (aSeq (aSet 4 (aLcC (aRng1 (aCons (aVar 3) aNil)) (aName 5) aYes aTNew [5])) (aSeq (aFor (aRng1 (aCons (aOp aSub (aVar 3) (aC (.d (.int 1)))) aNil)) (aName 5) (aDrop (aCall F__law_edge (fun _ _ => False) (aCons (aVar 0) (aCons (aOp aIx (aVar 4) (aVar 5)) (aCons (aVar 1) (aCons (aVar 2) (aCons (aOp aAdd (aVar 5) (aC (.d (.int 1)))) aNil)))))))) (aSeq (aFor (aRng1 (aCons (aCall Tab.F__law_draw (fun _ _ => False) (aCons (aVar 0) (aCons (aOp aAdd (aOp aMul (aC (.d (.int 2))) (aVar 3)) (aC (.d (.int 1)))) aNil))) aNil)) (aName 5) (aDrop (aCall F__law_edge (fun _ _ => False) (aCons (aVar 0) (aCons (aOp aIx (aVar 4) (aCall Tab.F__law_draw (fun _ _ => False) (aCons (aVar 0) (aCons (aVar 3) aNil)))) (aCons (aVar 1) (aCons (aVar 2) (aCons (aCall Tab.F__law_draw (fun _ _ => False) (aCons (aVar 0) (aCons (aVar 3) aNil))) aNil)))))))) (aSeq (aSet 6 (aLcL (aRng1 (aCons (aVar 3) aNil)) (aName 5) aYes (aOp aEq (aCall Tab.F__law_draw (fun _ _ => False) (aCons (aVar 0) (aCons (aC (.d (.int 3))) aNil))) (aC (.d (.int 0)))) [5])) (aSeq (aAsg (aC (.d (.bool true))) (aGSub (aVar 6) (aOp aSub (aVar 3) (aC (.d (.int 1)))) aSetL)) (aRet (aTup (aCons (aC (.d (.str "table"))) (aCons (aCB aTupOf (aCons (aLc (aIterL (aVar 4)) (aName 7) aYes (aCB aTupOf (aCons (aLc (aIter (aCB aSort (aCons (aVar 7) aNil))) (aName 8) aYes (aTup (aCons (aVar 8) (aCons (aTGet (aVar 7) (aVar 8)) aNil))) [8]) aNil)) [7]) aNil)) (aCons (aCB aTupOf (aCons (aVar 6) aNil)) aNil))))))))))
theorem len__law_table : ∀ as κ R E', F__law_table as κ R E' → as.length = (["state", "parties", "labels", "size"] : List Str).length := by
  rintro as κ R E' ⟨s, ps, ls, n, rfl, _⟩; rfl
theorem kap_new (s : Cell) (N : Nat) : (s :: List.replicate N (Cell.dT []) : AK) ++ [.lst (cs N)] = kap s (List.replicate N []) := by
  unfold kap
  rw [List.map_replicate, List.length_replicate]; rfl
theorem kap_len (s : Cell) (rs : List Row) : (kap s rs).length = rs.length + 2 := by
  unfold kap
  rw [List.length_cons, List.length_append, List.length_map, List.length_singleton]
theorem iterL {δ : AD} {κ : AK} {j : Nat} {xs : List AV} {R : AIt → AK → Prop} (h : δ[4]? = some (some (.c j))) (hj : κ[j]? = some (.lst xs)) (k : R (itL j) κ) : aIterL (aVar 4) δ κ R := by
  unfold aIterL
  rw [avr h]
  simp only [hj]
  exact k
theorem tup_cell {κ : AK} {j : Nat} {xs : List PyData} {R : AR} (hj : κ[j]? = some (.ld xs)) (k : R (.d (.tuple xs)) κ) : aTupOf [.c j] κ R := by
  unfold aTupOf
  refine ⟨xs, ?_, k⟩
  unfold ldOf
  simp only [hj]
theorem ret_tup3 {A : AEnds} {δ : AD} {κ : AK} {c : PyData} {X Y : AE} (h : X δ κ fun a κ1 => Y δ κ1 fun b κ2 => match allD [.d c, a, b] with
    | some ds => [AV.d c, a, b].length ≤ sizeLine ∧ A.rt (.d (.tuple ds)) κ2
    | none => [AV.d c, a, b].length ≤ sizeLine ∧ A.rt (.c κ2.length) (κ2 ++ [.tup [.d c, a, b]])) : (aRet (aTup (aCons (aC (.d c)) (aCons X (aCons Y aNil))))) A δ κ := h
theorem cb1 {g : List AV → AK → AR → Prop} {X : AE} {δ : AD} {κ : AK} {R : AR} (h : X δ κ fun a κ1 => g [a] κ1 R) : aCB g (aCons X aNil) δ κ R := h
theorem lc_i {ai : AI} {ag : AG} {p : AT} {f : AE} {vs : List Nat} {δ : AD} {κ : AK} {R : AR} (h : ai δ κ fun J κ1 => LcW J ag p f vs δ κ1 R) : aLc ai ag p f vs δ κ R := h
theorem cb_tup {δ : AD} {κ : AK} {j i : Nat} {xs : List PyData} {R : AR} (hv : δ[i]? = some (some (.c j))) (hj : κ[j]? = some (.ld xs)) (k : R (.d (.tuple xs)) κ) : aCB aTupOf (aCons (aVar i) aNil) δ κ R := by
  have : (aVar i δ κ fun a κ1 => aTupOf [a] κ1 R) := by rw [avr hv]; exact tup_cell hj k
  exact this
theorem fin_tab {A : AEnds} {x0 x1 x2 x3 x5 x7 x8 : Option AV} {κ : AK} {j4 j6 : Nat} {rs : List Row} {ds : List PyData} (hl : κ[j4]? = some (.lst (cs rs.length))) (hrow : ∀ k r, rs[k]? = some r → κ[k + 1]? = some (.dT (rowD r))) (hnd : ∀ r ∈ rs, (r.map (·.1)).Nodup ∧ r.length ≤ 1000000) (hn : rs.length ≤ 1000) (h6 : κ[j6]? = some (.ld ds))
    (k : ∀ rs' : List Row, rs'.length = rs.length → (∀ (m : Nat) r', rs'[m]? = some r' → ∃ r, rs[m]? = some r ∧ r'.Perm r ∧ Asc r') → A.rt (.d (.tuple [.str "table", .tuple (rs'.map rowT), .tuple ds])) κ) :
    (aRet (aTup (aCons (aC (.d (.str "table"))) (aCons (aCB aTupOf (aCons (aLc (aIterL (aVar 4)) (aName 7) aYes (aCB aTupOf (aCons (aLc (aIter (aCB aSort (aCons (aVar 7) aNil))) (aName 8) aYes (aTup (aCons (aVar 8) (aCons (aTGet (aVar 7) (aVar 8)) aNil))) [8]) aNil)) [7]) aNil)) (aCons (aCB aTupOf (aCons (aVar 6) aNil)) aNil))))) A [x0, x1, x2, x3, some (.c j4), x5, some (.c j6), x7, x8] κ := by
  refine ret_tup3 (cb1 (lc_i (iterL rfl hl ?_)))
  refine lc_l (fun i acc κ' => κ' = κ ∧ ∃ rs' : List Row, acc = rs'.map rowT ∧ rs'.length = i ∧ ∀ (m : Nat) r', rs'[m]? = some r' → ∃ r, rs[m]? = some r ∧ r'.Perm r ∧ Asc r') ⟨rfl, [], rfl, rfl, fun m r' h => by cases h⟩ (by rintro i acc κ' ⟨rfl, _⟩; exact hl) ?_ ?_
  · rintro acc κ' ⟨rfl, rs', rfl, hlen, hr'⟩
    have hlen2 : rs'.length = rs.length := by rw [hlen]; unfold cs; rw [List.length_map, List.length_range]
    refine ⟨_, rfl, ?_⟩
    exact cb_tup (i := 6) (j := j6) rfl h6 ⟨(show 3 ≤ sizeLine by decide), k rs' hlen2 hr'⟩
  · rintro i x acc κ' hx ⟨rfl, rs', rfl, hlen, hr'⟩
    have hi : i < rs.length := by
      have := (List.getElem?_eq_some_iff.mp hx).1
      unfold cs at this
      rwa [List.length_map, List.length_range] at this
    have hxe : x = .c (i + 1) := by
      unfold cs at hx
      rw [List.getElem?_map, List.getElem?_range hi] at hx
      exact (Option.some.inj hx).symm
    subst hxe
    have hri : rs[i]? = some rs[i] := List.getElem?_eq_getElem hi
    obtain ⟨n1, n2⟩ := hnd _ (List.getElem_mem hi)
    refine inner (hrow i _ hri) n1 n2 fun r2 hp ha => ⟨_, rfl, ?_, rfl, rs' ++ [r2], by rw [List.map_append]; rfl, by simp [hlen], fun m r' hm => ?_⟩
    · rw [List.length_map]; exact Nat.lt_of_le_of_lt (show rs'.length ≤ 1000 by omega) (by decide)
    · by_cases hmi : m < rs'.length
      · rw [List.getElem?_append_left hmi] at hm
        exact hr' m r' hm
      · rw [List.getElem?_append_right (by omega)] at hm
        have hm0 : m - rs'.length = 0 := by
          have := (List.getElem?_eq_some_iff.mp hm).1
          rw [List.length_singleton] at this; omega
        rw [hm0] at hm
        cases hm
        exact ⟨_, by rw [show m = i by omega]; exact hri, hp, ha⟩
theorem rd__law_table : ∀ as κ R E', F__law_table as κ R E' → a__law_table K (endsA K κ.length R) (startA N__law_table as) κ := by
  rintro as κ R E' ⟨s, ps, ls, n, rfl, rfl, hs, p2, p3, l1, l2, nd, n1, n2, h⟩
  have tn : ((n : Nat) : Int).toNat = n := Int.toNat_natCast n
  refine ⟨by omega, by omega, ?_⟩
  rw [tn]
  refine lcC_r (fun i acc κ' => κ' = s :: List.replicate i (Cell.dT []) ∧ acc = cs i) ⟨rfl, rfl⟩ ?_ ?_
  rotate_left
  · rintro i acc κ' hi ⟨rfl, rfl⟩
    refine ⟨?_, ?_, ?_⟩
    · unfold cs; rw [List.length_map, List.length_range]; exact Nat.lt_of_le_of_lt (show i ≤ 1000 by omega) (by decide)
    · rw [List.replicate_succ']; rfl
    · rw [cs_succ, List.length_cons, List.length_replicate]
  rintro acc κ' ⟨rfl, rfl⟩
  rw [kap_new, List.length_cons, List.length_replicate]
  have tn1 : ((n : Nat) : Int) - 1 = ((n - 1 : Nat) : Int) := by omega
  refine ⟨by show -(2 ^ 62) ≤ ((n : Nat) : Int) - 1; omega, by show ((n : Nat) : Int) - 1 < 2 ^ 62; omega, ?_⟩
  refine for_r (fun i δ κ => ∃ s rs x5 x6 x7 x8, δ = [some (.c 0), some (.d (.list (ps.map .str))), some (.d (.list (ls.map .str))), some (.d (.int (n : Nat))), some (.c (n + 1)), x5, x6, x7, x8] ∧ κ = kap s rs ∧ isSt s ∧ Rows1 ps ls n i rs)
    ⟨s, List.replicate n [], none, none, none, none, rfl, rfl, hs, ⟨List.length_replicate .., fun r hr => ?_, fun k r hk => absurd hk (Nat.not_lt_zero _), fun k r _ hr => ?_⟩⟩ ?_ ?_
  · rw [List.eq_of_mem_replicate hr]
    exact ⟨⟨fun x hx => (by cases hx), .nil⟩, Nat.zero_le _⟩
  · exact List.eq_of_mem_replicate (List.mem_of_getElem? hr)
  rotate_left
  · rintro i δ κ hi ⟨s, rs, x5, x6, x7, x8, rfl, rfl, hs, hrow⟩ _
    have hi2 : i + 1 < n := by
      have : i < (((n : Nat) : Int) - 1).toNat := hi
      omega
    have hlt : i < rs.length := by rw [hrow.len]; omega
    have hr : rs[i]? = some rs[i] := List.getElem?_eq_getElem hlt
    have hnil := hrow.rest i _ (Nat.le_refl _) hr
    rw [hnil] at hr
    refine edge1k (k := i) rfl rfl rfl (by rw [hrow.len]; rfl) rfl (by show (0 : Int) + (i : Int) = _; omega) hr hs p2 p3 l1 l2 nd (Nat.zero_le _) fun s' r' hs' hr' => ?_
    rcases hr' with ⟨_, hne⟩ | ⟨a, ha, _, rfl⟩
    · exact absurd rfl hne
    · exact ⟨s', _, _, _, _, _, rfl, rfl, hs', rows1_next hrow hi2 ha⟩
  rintro δ κ ⟨s, rs, x5, x6, x7, x8, rfl, rfl, hs, hrow⟩ _
  have hrow2 : Rows2 ps ls n 1 rs := by
    refine ⟨hrow.len, hrow.ok, fun k r hk hr => hrow.edge k r ?_ hr⟩
    show k < (((n : Nat) : Int) - 1).toNat
    omega
  refine ⟨.inl ⟨by decide, by decide⟩, ?_⟩
  refine draw_w (s := s) (m := 2 * (n : Int) + 1) (κr := rs.map rowC ++ [.lst (cs rs.length)]) hs (by omega) (by omega) fun m s1 hs1 m0 m1 => ?_
  refine ⟨by omega, by omega, ?_⟩
  obtain ⟨M, rfl⟩ := Int.eq_ofNat_of_zero_le m0
  refine for_r (fun i δ κ => ∃ s rs x5 x6 x7 x8, δ = [some (.c 0), some (.d (.list (ps.map .str))), some (.d (.list (ls.map .str))), some (.d (.int (n : Nat))), some (.c (n + 1)), x5, x6, x7, x8] ∧ κ = kap s rs ∧ isSt s ∧ Rows2 ps ls n (1 + i) rs)
    ⟨s1, rs, _, _, _, _, rfl, rfl, hs1, hrow2⟩ ?_ ?_
  rotate_left
  · rintro i δ κ hi ⟨s, rs, x5, x6, x7, x8, rfl, rfl, hs, hrow⟩ _
    have hiM : i < M := by
      have : i < ((M : Nat) : Int).toNat := hi
      omega
    exact edge2k (n := n) rfl rfl rfl rfl (by rw [hrow.len]; rfl) hrow.len (by omega) (by omega) hs p2 p3 l1 l2 nd (fun r hr => by have := (hrow.ok r hr).2; omega) fun s' k r g r' hs' hr g0 g1 hr' => ⟨s', _, _, _, _, _, rfl, rfl, hs', rows2_next hrow hr g0 g1 hr'⟩
  rintro δ κ ⟨s, rs, x5, x6, x7, x8, rfl, rfl, hs, hrow⟩ _
  have hb : 1 + ((M : Nat) : Int).toNat ≤ 2 * n + 1 := by omega
  refine ⟨by omega, by omega, ?_⟩
  rw [tn]
  refine lcL_r (fun i acc κ' => ∃ s' bs, κ' = kap s' rs ∧ isSt s' ∧ acc = bs.map PyData.bool ∧ bs.length = i) ⟨s, [], rfl, hs, rfl, rfl⟩ ?_ ?_
  rotate_left
  · rintro i acc κ' hi ⟨s', bs, rfl, hs', rfl, hbl⟩
    refine draw_w (s := s') (m := 3) (κr := rs.map rowC ++ [.lst (cs rs.length)]) hs' (by decide) (by decide) fun v s2 hs2 v0 v1 => ?_
    refine ⟨_, rfl, ?_, s2, bs ++ [decide (v = 0)], rfl, hs2, by rw [List.map_append]; rfl, by simp [hbl]⟩
    rw [List.length_map]; exact Nat.lt_of_le_of_lt (show bs.length ≤ 1000 by omega) (by decide)
  rintro acc κ' ⟨s', bs, rfl, hs', rfl, hbl⟩
  have hlb : (bs.map PyData.bool).length = n := by rw [List.length_map]; exact hbl
  refine set6 (δ := [some (.c 0), some (.d (.list (ps.map .str))), some (.d (.list (ls.map .str))), some (.d (.int (n : Nat))), some (.c (n + 1)), x5, some (.c (kap s' rs).length), x7, x8]) (j := (kap s' rs).length) (n := (n : Int)) (xs := bs.map PyData.bool) (m := n - 1) rfl rfl ?_ ?_ ?_
  · rw [List.getElem?_append_right (Nat.le_refl _), Nat.sub_self]; rfl
  · rw [hlb]
    unfold ixN
    rw [if_pos (by omega), if_pos (by omega)]
    congr 1; omega
  have hset : (kap s' rs ++ [Cell.ld (bs.map PyData.bool)]).set (kap s' rs).length (.ld ((bs.map PyData.bool).set (n - 1) (.bool true))) = kap s' rs ++ [.ld ((bs.set (n - 1) true).map PyData.bool)] := by
    rw [List.set_append_right _ _ (Nat.le_refl _), Nat.sub_self, List.map_set]; rfl
  rw [hset]
  have hlast : ((bs.set (n - 1) true))[n - 1]? = some true := List.getElem?_set_self (by omega)
  refine fin_tab (rs := rs) (ds := (bs.set (n - 1) true).map PyData.bool) ?_ (fun k r hr => ?_) (fun r hr => ?_) (by rw [hrow.len]; omega) ?_ fun rs' hl' hr' => ?_
  · have := kap_lst s' rs
    rw [hrow.len] at this ⊢
    rw [List.getElem?_append_left (by rw [kap_len, hrow.len]; omega)]; exact this
  · have hk := (List.getElem?_eq_some_iff.mp hr).1
    rw [List.getElem?_append_left (by rw [kap_len]; omega)]
    exact kap_row hr
  · obtain ⟨q1, q2⟩ := hrow.ok r hr
    exact ⟨q1.nd, by omega⟩
  · rw [List.getElem?_append_right (Nat.le_refl _), Nat.sub_self]; rfl
  · refine ⟨_, _, GhR.take 1 (Nat.le_refl _) (by rw [List.length_append, kap_len]; omega) ?_ rfl, h s' rs' (bs.set (n - 1) true) hs' ⟨hl'.trans hrow.len, by rw [List.length_set]; exact hbl, fun r' hr2 => ?_, fun k r' hk hr2 => ?_, hlast⟩⟩
    · show (okC 1 s' && true) = true
      rw [hs'.ok]; rfl
    · obtain ⟨m, hm⟩ := List.mem_iff_getElem?.mp hr2
      obtain ⟨r, hr, hp, ha⟩ := hr' m r' hm
      obtain ⟨q1, q2⟩ := hrow.ok r (List.mem_of_getElem? hr)
      exact ⟨⟨fun x hx => q1.a x (hp.mem_iff.mp hx), (hp.map _).nodup_iff.mpr q1.nd⟩, ha, by rw [hp.length_eq]; omega⟩
    · obtain ⟨r, hr, hp, _⟩ := hr' k r' hr2
      obtain ⟨a, ha⟩ := hrow.edge k r hk hr
      exact ⟨a, hp.mem_iff.mpr ha⟩
theorem table_w {s : Cell} {κr : AK} {ps ls : List Str} {n : Nat} {E : AX → AK → Prop} {R : AR} (hs : isSt s) (p2 : 2 ≤ ps.length) (p3 : ps.length ≤ 1000) (l1 : 1 ≤ ls.length) (l2 : ls.length ≤ 1000) (nd : ps.Nodup) (n1 : 1 ≤ n) (n2 : n ≤ 100)
    (k : ∀ s' rs bs, isSt s' → okTab ps ls n rs bs → R (.d (tabD rs bs)) (s' :: κr)) : callW F__law_table E [.c 0, .d (.list (ps.map .str)), .d (.list (ls.map .str)), .d (.int (n : Nat))] (s :: κr) R :=
  callW_i ⟨[0], _, _, by decide, rfl, sel0t hs, s, ps, ls, n, rfl, rfl, hs, p2, p3, l1, l2, nd, n1, n2, fun s' rs bs hs' ht => ⟨Nat.le_refl _, cl1t hs', rfl, k s' rs bs hs' ht⟩⟩
end Tab
set_option Elab.async false
set_option linter.all false
set_option maxRecDepth 100000
set_option maxHeartbeats 4000000
/-! Wlk: tables walked, lists of actions seen by a party -/
namespace Tab
open PySem L2 Ab Com
variable {K : PySem.W.Frag}
def actD (a : Act) : PyData := .tuple [.str a.p, .str a.q, .str a.l]
theorem entT_eq (x : Act × Int) : entT x = .tuple [actD x.1, .int x.2] := rfl
structure goodA (a : Act) : Prop where
  p : PyData.strOk a.p = true
  q : PyData.strOk a.q = true
  l : PyData.strOk a.l = true
theorem name_strOk {z : Str} (h : isName z) : PyData.strOk z = true := by
  obtain ⟨⟨c, r, e, hc, hr, hl⟩, _⟩ := h
  unfold PyData.strOk
  rw [← Array.all_toList, List.all_eq_true]
  intro x hx
  have hx : x ∈ tl z := hx
  rw [e] at hx
  refine decide_eq_true ?_
  rcases List.mem_cons.mp hx with rfl | hx
  · unfold low at hc; omega
  · have := hr x hx; unfold Com.run low dig at this; omega
theorem sh_act {a : Act} (h : goodA a) : SeqAt.shaped (actD a) = true := by
  unfold actD
  simp [SeqAt.shaped, PyData.canLay0, PyData.canLayAll0, PyData.depth, PyData.depthAll, h.p, h.q, h.l]
theorem eqv_act (a b : Act) : PyData.eqv (actD a) (actD b) = decide (a = b) := by
  obtain ⟨p, q, l⟩ := a
  obtain ⟨p', q', l'⟩ := b
  show ((p == p') && ((q == q') && ((l == l') && true))) = _
  rw [Bool.eq_iff_iff]
  simp
def stepR (r : Row) (a : Act) : Option Int := (r.find? fun x => decide (x.1 = a)).map (·.2)
def optD : Option Int → PyData
  | some g => .int g
  | none => .none
theorem step_at {r : Row} {i : Nat} {x : Act × Int} {a : Act} (hx : r[i]? = some x) (he : x.1 = a) (hn : ∀ y ∈ r.take i, y.1 ≠ a) : stepR r a = some x.2 := by
  obtain ⟨hi, e⟩ := List.getElem?_eq_some_iff.mp hx
  have h1 : r = r.take i ++ x :: r.drop (i + 1) := by
    rw [← e, ← List.drop_eq_getElem_cons hi, List.take_append_drop]
  unfold stepR
  rw [h1, List.find?_append]
  have h2 : (r.take i).find? (fun x => decide (x.1 = a)) = none := List.find?_eq_none.mpr fun y hy h => hn y hy (of_decide_eq_true h)
  rw [h2, List.find?_cons]
  simp [he]
theorem step_none {r : Row} {a : Act} (hn : ∀ y ∈ r, y.1 ≠ a) : stepR r a = none := by
  unfold stepR
  rw [List.find?_eq_none.mpr fun y hy h => hn y hy (of_decide_eq_true h)]; rfl
def F_next_state : FSp := fun as κ R _ => ∃ (rs : List Row) (bs : List Bool) (s : Nat) (r : Row) (a : Act), as = [.d (tabD rs bs), .d (.int (s : Nat)), .d (actD a)] ∧ κ = [] ∧ rs[s]? = some r ∧ (∀ x ∈ r, goodA x.1) ∧ goodA a ∧ R (.d (optD (stepR r a))) []
def F__law_step : FSp := F_next_state
abbrev N_next_state : List Str := ["table", "state", "action", "known", "target"]
def a_next_state (K : PySem.W.Frag) : AS :=
  (aSeq (aFor (aIter (aOp aIx (aOp aIx (aVar 0) (aC (.d (.int 1)))) (aVar 1))) (aGTup 2 (aGCons (aName 3) (aGCons (aName 4) aGNil))) (aIfS (aB (aOp aEq (aVar 3) (aVar 2))) (aRet (aVar 4)) aNext)) (aRet (aC (.d .none))))
abbrev N__law_step : List Str := ["table", "state", "action", "other", "goal"]
def a__law_step (K : PySem.W.Frag) : AS :=
  (aSeq (aFor (aIter (aOp aIx (aOp aIx (aVar 0) (aC (.d (.int 1)))) (aVar 1))) (aGTup 2 (aGCons (aName 3) (aGCons (aName 4) aGNil))) (aIfS (aB (aOp aEq (aVar 3) (aVar 2))) (aRet (aVar 4)) aNext)) (aRet (aC (.d .none))))
theorem len_next_state : ∀ as κ R E', F_next_state as κ R E' → as.length = (["table", "state", "action"] : List Str).length := by
  rintro as κ R E' ⟨rs, bs, s, r, a, rfl, _⟩; rfl
theorem len__law_step : ∀ as κ R E', F__law_step as κ R E' → as.length = (["table", "state", "action"] : List Str).length := by
  rintro as κ R E' ⟨rs, bs, s, r, a, rfl, _⟩; rfl
theorem rd_next_state : ∀ as κ R E', F_next_state as κ R E' → a_next_state K (endsA K κ.length R) (startA N_next_state as) κ := by
  rintro as κ R E' ⟨rs, bs, s, r, a, rfl, rfl, hr, hg, ha, h⟩
  refine ⟨_, at_nat (j := 1) rfl, rowT r, at_nat (by rw [List.getElem?_map, hr]; rfl), ?_⟩
  refine for_d (fun i δ κ => ∃ x3 x4, δ = [some (.d (tabD rs bs)), some (.d (.int (s : Nat))), some (.d (actD a)), x3, x4] ∧ κ = [] ∧ ∀ y ∈ r.take i, y.1 ≠ a) ⟨none, none, rfl, rfl, fun y hy => by cases hy⟩ ?_ ?_
  · rintro δ κ ⟨x3, x4, rfl, rfl, hn⟩ _
    rw [List.length_map, List.take_length] at hn
    exact ⟨_, _, GhR.refl (Nat.le_refl _), by rw [step_none hn] at h; exact h⟩
  · rintro i d δ κ hd ⟨x3, x4, rfl, rfl, hn⟩ _
    rw [List.getElem?_map] at hd
    obtain ⟨x, hx, rfl⟩ := Option.map_eq_some_iff.mp hd
    refine ⟨rfl, sh_act (hg x (List.mem_of_getElem? hx)), sh_act ha, bsel_i (fun ht => ?_) fun hf => ?_⟩
    · have ht : PyData.eqv (actD x.1) (actD a) = true := ht
      rw [eqv_act] at ht
      have := step_at hx (of_decide_eq_true ht) hn
      exact ⟨_, _, GhR.refl (Nat.le_refl _), by rw [this] at h; exact h⟩
    · have hf : PyData.eqv (actD x.1) (actD a) = false := hf
      rw [eqv_act] at hf
      refine ⟨_, _, rfl, rfl, fun y hy => ?_⟩
      rw [List.take_succ, hx] at hy
      rcases List.mem_append.mp hy with hy | hy
      · exact hn y hy
      · have hy : y = x := by simpa using hy
        rw [hy]; exact of_decide_eq_false hf
theorem rd__law_step : ∀ as κ R E', F__law_step as κ R E' → a__law_step K (endsA K κ.length R) (startA N__law_step as) κ := rd_next_state
theorem nstep_w {rs : List Row} {bs : List Bool} {s : Nat} {r : Row} {a : Act} {κ : AK} {R : AR} {E : AX → AK → Prop} (hr : rs[s]? = some r) (hg : ∀ x ∈ r, goodA x.1) (ha : goodA a) (h : R (.d (optD (stepR r a))) κ) : callW F_next_state E [.d (tabD rs bs), .d (.int (s : Nat)), .d (actD a)] κ R :=
  callW_i ⟨[], _, _, .nil, rfl, rfl, rs, bs, s, r, a, rfl, rfl, hr, hg, ha, Nat.zero_le _, rfl, rfl, by cases e : stepR r a <;> (rw [e] at h; exact h)⟩
theorem lstep_w {rs : List Row} {bs : List Bool} {s : Nat} {r : Row} {a : Act} {κ : AK} {R : AR} {E : AX → AK → Prop} (hr : rs[s]? = some r) (hg : ∀ x ∈ r, goodA x.1) (ha : goodA a) (h : R (.d (optD (stepR r a))) κ) : callW F__law_step E [.d (tabD rs bs), .d (.int (s : Nat)), .d (actD a)] κ R := nstep_w hr hg ha h
/-! ### walks -/
structure okG (rs : List Row) : Prop where
  a : ∀ r ∈ rs, ∀ x ∈ r, goodA x.1
  g : ∀ r ∈ rs, ∀ x ∈ r, 0 ≤ x.2 ∧ x.2 < rs.length
def walkT (rs : List Row) : List Act → Nat → Option Int
  | [], s => some s
  | a :: as, s => match rs[s]? with
    | some r => match stepR r a with
      | some g => walkT rs as g.toNat
      | none => none
    | none => none
theorem step_mem {r : Row} {a : Act} {g : Int} (h : stepR r a = some g) : (a, g) ∈ r := by
  unfold stepR at h
  obtain ⟨x, hx, rfl⟩ := Option.map_eq_some_iff.mp h
  have h1 := List.mem_of_find?_eq_some hx
  have h2 := List.find?_some hx
  rw [← of_decide_eq_true h2]; exact h1
def F_walk : FSp := fun as κ R _ => ∃ (rs : List Row) (bs : List Bool) (run : List Act), as = [.d (tabD rs bs), .d (.list (run.map actD))] ∧ κ = [] ∧ okG rs ∧ rs ≠ [] ∧ (∀ a ∈ run, goodA a) ∧ R (.d (optD (walkT rs run 0))) []
def F__law_walk : FSp := F_walk
abbrev N_walk : List Str := ["table", "actions", "state", "action"]
def a_walk (K : PySem.W.Frag) : AS :=
  (aSeq (aSet 2 (aC (.d (.int 0)))) (aSeq (aFor (aIter (aVar 1)) (aName 3) (aSeq (aSet 2 (aCall F_next_state (fun _ _ => False) (aCons (aVar 0) (aCons (aVar 2) (aCons (aVar 3) aNil))))) (aIfS (aB (aOp (aIsN id) (aVar 2) (aC (.d .none)))) (aRet (aC (.d .none))) aNext))) (aRet (aVar 2))))
abbrev N__law_walk : List Str := ["table", "actions", "state", "action"]
def a__law_walk (K : PySem.W.Frag) : AS :=
  (aSeq (aSet 2 (aC (.d (.int 0)))) (aSeq (aFor (aIter (aVar 1)) (aName 3) (aIfS (aB (aOp (aIsN not) (aVar 2) (aC (.d .none)))) (aSet 2 (aCall F__law_step (fun _ _ => False) (aCons (aVar 0) (aCons (aVar 2) (aCons (aVar 3) aNil))))) aNext)) (aRet (aVar 2))))
theorem len_walk : ∀ as κ R E', F_walk as κ R E' → as.length = (["table", "actions"] : List Str).length := by
  rintro as κ R E' ⟨rs, bs, run, rfl, _⟩; rfl
theorem len__law_walk : ∀ as κ R E', F__law_walk as κ R E' → as.length = (["table", "actions"] : List Str).length := by
  rintro as κ R E' ⟨rs, bs, run, rfl, _⟩; rfl
theorem walk_step {rs : List Row} {run : List Act} {i s : Nat} {a : Act} {r : Row} (ha : run[i]? = some a) (hr : rs[s]? = some r) : walkT rs (run.drop i) s = match stepR r a with
    | some g => walkT rs (run.drop (i + 1)) g.toNat
    | none => none := by
  obtain ⟨hi, e⟩ := List.getElem?_eq_some_iff.mp ha
  rw [List.drop_eq_getElem_cons hi, e]
  show (match rs[s]? with | some r => _ | none => none) = _
  rw [hr]
theorem rd_walk : ∀ as κ R E', F_walk as κ R E' → a_walk K (endsA K κ.length R) (startA N_walk as) κ := by
  rintro as κ R E' ⟨rs, bs, run, rfl, rfl, ok, hne, hrun, h⟩
  refine for_d (fun i δ κ => ∃ (s : Nat) (x3 : Option AV), δ = [some (.d (tabD rs bs)), some (.d (.list (run.map actD))), some (.d (.int (s : Nat))), x3] ∧ κ = [] ∧ s < rs.length ∧ walkT rs run 0 = walkT rs (run.drop i) s) ⟨0, none, rfl, rfl, List.length_pos_iff.mpr hne, rfl⟩ ?_ ?_
  · rintro δ κ ⟨s, x3, rfl, rfl, hs, hw⟩ _
    rw [List.length_map, List.drop_length] at hw
    exact ⟨_, _, GhR.refl (Nat.le_refl _), by rw [hw] at h; exact h⟩
  · rintro i d δ κ hd ⟨s, x3, rfl, rfl, hs, hw⟩ _
    rw [List.getElem?_map] at hd
    obtain ⟨a, ha, rfl⟩ := Option.map_eq_some_iff.mp hd
    have hr : rs[s]? = some rs[s] := List.getElem?_eq_getElem hs
    rw [walk_step ha hr] at hw
    refine nstep_w hr (ok.a _ (List.getElem_mem hs)) (hrun a (List.mem_of_getElem? ha)) ?_
    cases e : stepR rs[s] a with
    | none =>
      rw [e] at hw
      exact ⟨_, _, GhR.refl (Nat.le_refl _), by rw [hw] at h; exact h⟩
    | some g =>
      rw [e] at hw
      obtain ⟨g0, g1⟩ := ok.g _ (List.getElem_mem hs) _ (step_mem e)
      obtain ⟨t, rfl⟩ := Int.eq_ofNat_of_zero_le g0
      exact ⟨t, _, rfl, rfl, Int.ofNat_lt.mp g1, hw⟩
theorem rd__law_walk : ∀ as κ R E', F__law_walk as κ R E' → a__law_walk K (endsA K κ.length R) (startA N__law_walk as) κ := by
  rintro as κ R E' ⟨rs, bs, run, rfl, rfl, ok, hne, hrun, h⟩
  refine for_d (fun i δ κ => ∃ (o : Option Nat) (x3 : Option AV), δ = [some (.d (tabD rs bs)), some (.d (.list (run.map actD))), some (.d (optD (o.map fun n => (n : Int)))), x3] ∧ κ = [] ∧ (∀ s, o = some s → s < rs.length ∧ walkT rs run 0 = walkT rs (run.drop i) s) ∧ (o = none → walkT rs run 0 = none)) ⟨some 0, none, rfl, rfl, fun s hs => (by cases hs; exact ⟨List.length_pos_iff.mpr hne, rfl⟩), fun z => by cases z⟩ ?_ ?_
  · rintro δ κ ⟨o, x3, rfl, rfl, h1, h2⟩ _
    cases o with
    | none => exact ⟨_, _, GhR.refl (Nat.le_refl _), by rw [h2 rfl] at h; exact h⟩
    | some s =>
      have hw := (h1 s rfl).2
      rw [List.length_map, List.drop_length] at hw
      exact ⟨_, _, GhR.refl (Nat.le_refl _), by rw [hw] at h; exact h⟩
  · rintro i d δ κ hd ⟨o, x3, rfl, rfl, h1, h2⟩ _
    rw [List.getElem?_map] at hd
    obtain ⟨a, ha, rfl⟩ := Option.map_eq_some_iff.mp hd
    cases o with
    | none => exact ⟨none, _, rfl, rfl, fun s z => (by cases z), fun _ => h2 rfl⟩
    | some s =>
      obtain ⟨hs, hw⟩ := h1 s rfl
      have hr : rs[s]? = some rs[s] := List.getElem?_eq_getElem hs
      rw [walk_step ha hr] at hw
      refine lstep_w hr (ok.a _ (List.getElem_mem hs)) (hrun a (List.mem_of_getElem? ha)) ?_
      cases e : stepR rs[s] a with
      | none =>
        rw [e] at hw
        exact ⟨none, _, rfl, rfl, fun s z => (by cases z), fun _ => hw⟩
      | some g =>
        rw [e] at hw
        obtain ⟨g0, g1⟩ := ok.g _ (List.getElem_mem hs) _ (step_mem e)
        obtain ⟨t, rfl⟩ := Int.eq_ofNat_of_zero_le g0
        exact ⟨some t, _, rfl, rfl, fun s z => (by cases z; exact ⟨Int.ofNat_lt.mp g1, hw⟩), fun z => by cases z⟩
theorem nwalk_w {rs : List Row} {bs : List Bool} {run : List Act} {κ : AK} {R : AR} {E : AX → AK → Prop} (ok : okG rs) (hne : rs ≠ []) (hr : ∀ a ∈ run, goodA a) (h : R (.d (optD (walkT rs run 0))) κ) : callW F_walk E [.d (tabD rs bs), .d (.list (run.map actD))] κ R :=
  callW_i ⟨[], _, _, .nil, rfl, rfl, rs, bs, run, rfl, rfl, ok, hne, hr, Nat.zero_le _, rfl, rfl, by cases e : walkT rs run 0 <;> (rw [e] at h; exact h)⟩
theorem lwalk_w {rs : List Row} {bs : List Bool} {run : List Act} {κ : AK} {R : AR} {E : AX → AK → Prop} (ok : okG rs) (hne : rs ≠ []) (hr : ∀ a ∈ run, goodA a) (h : R (.d (optD (walkT rs run 0))) κ) : callW F__law_walk E [.d (tabD rs bs), .d (.list (run.map actD))] κ R := nwalk_w ok hne hr h
theorem okG_of {ps ls : List Str} {n : Nat} {rs : List Row} {bs : List Bool} (h : okTab ps ls n rs bs) (hp : ∀ z ∈ ps, isName z) (hl : ∀ z ∈ ls, isName z) : okG rs := by
  refine ⟨fun r hr x hx => ?_, fun r hr x hx => ?_⟩
  · obtain ⟨h1, _, _⟩ := (h.ok r hr).1.a x hx
    exact ⟨name_strOk (hp _ h1.p), name_strOk (hp _ h1.q), name_strOk (hl _ h1.l)⟩
  · obtain ⟨_, h1, h2⟩ := (h.ok r hr).1.a x hx
    rw [h.len]; exact ⟨h1, h2⟩
/-! ### views -/
def viewT (p : Str) (run : List Act) : List Act := run.filter fun a => decide (p = a.p ∨ p = a.q)
theorem in2 (p x y : Str) : inD (.str p) [.str x, .str y] = decide (p = x ∨ p = y) := by
  have := inD_str p [x, y]
  rw [show ([x, y] : List Str).map PyData.str = [.str x, .str y] from rfl] at this
  rw [this, Bool.eq_iff_iff]; simp
def F_takes_part : FSp := fun as κ R _ => ∃ (p : Str) (a : Act), as = [.d (.str p), .d (actD a)] ∧ κ = [] ∧ R (.d (.bool (decide (p = a.p ∨ p = a.q)))) []
abbrev N_takes_part : List Str := ["party", "action"]
def a_takes_part (K : PySem.W.Frag) : AS :=
  (aRet (aOp (aIn id) (aVar 0) (aSlT (aVar 1) aNoPart (aPart (aC (.d (.int 2)))))))
theorem len_takes_part : ∀ as κ R E', F_takes_part as κ R E' → as.length = (["party", "action"] : List Str).length := by
  rintro as κ R E' ⟨p, a, rfl, _⟩; rfl
theorem rd_takes_part : ∀ as κ R E', F_takes_part as κ R E' → a_takes_part K (endsA K κ.length R) (startA N_takes_part as) κ := by
  rintro as κ R E' ⟨p, a, rfl, rfl, h⟩
  refine ⟨rfl, rfl, _, _, GhR.refl (Nat.le_refl _), ?_⟩
  show R (.d (.bool (inD (.str p) [.str a.p, .str a.q]))) []
  rw [in2]; exact h
theorem takes_w {p : Str} {a : Act} {κ : AK} {R : AR} {E : AX → AK → Prop} (h : R (.d (.bool (decide (p = a.p ∨ p = a.q)))) κ) : callW F_takes_part E [.d (.str p), .d (actD a)] κ R :=
  callW_i ⟨[], _, _, .nil, rfl, rfl, p, a, rfl, rfl, Nat.zero_le _, rfl, rfl, h⟩
def F_view : FSp := fun as κ R _ => ∃ (p : Str) (run : List Act), as = [.d (.list (run.map actD)), .d (.str p)] ∧ κ = [] ∧ run.length ≤ 1000000 ∧ R (.d (.list ((viewT p run).map actD))) []
def F__law_view : FSp := F_view
abbrev N_view : List Str := ["actions", "party", "action"]
def a_view (K : PySem.W.Frag) : AS :=
  (aRet (aLc (aIter (aVar 0)) (aName 2) (aTru (aCall F_takes_part (fun _ _ => False) (aCons (aVar 1) (aCons (aVar 2) aNil)))) (aVar 2) [2]))
abbrev N__law_view : List Str := ["actions", "party", "action"]
def a__law_view (K : PySem.W.Frag) : AS :=
  (aRet (aLc (aIter (aVar 0)) (aName 2) (aB (aOp (aIn id) (aVar 1) (aLstD (aCons (aOp aIx (aVar 2) (aC (.d (.int 0)))) (aCons (aOp aIx (aVar 2) (aC (.d (.int 1)))) aNil))))) (aVar 2) [2]))
theorem len_view : ∀ as κ R E', F_view as κ R E' → as.length = (["actions", "party"] : List Str).length := by
  rintro as κ R E' ⟨p, run, rfl, _⟩; rfl
theorem len__law_view : ∀ as κ R E', F__law_view as κ R E' → as.length = (["actions", "party"] : List Str).length := by
  rintro as κ R E' ⟨p, run, rfl, _⟩; rfl
theorem view_snoc {p : Str} {run : List Act} {i : Nat} {a : Act} (h : run[i]? = some a) : viewT p (run.take (i + 1)) = viewT p (run.take i) ++ (if decide (p = a.p ∨ p = a.q) = true then [a] else []) := by
  unfold viewT
  rw [List.take_succ, h, List.filter_append]
  show _ ++ List.filter _ [a] = _
  rw [List.filter_cons, List.filter_nil]
theorem view_len {p : Str} {run : List Act} {i : Nat} : (viewT p (run.take i)).length ≤ run.length := Nat.le_trans (List.length_filter_le ..) (List.length_take_le' ..)
theorem rd_view : ∀ as κ R E', F_view as κ R E' → a_view K (endsA K κ.length R) (startA N_view as) κ := by
  rintro as κ R E' ⟨p, run, rfl, rfl, hl, h⟩
  refine lc_d (fun i acc κ' => κ' = [] ∧ acc = (viewT p (run.take i)).map actD) ⟨rfl, rfl⟩ ?_ ?_
  · rintro acc κ' ⟨rfl, rfl⟩
    rw [List.length_map, List.take_length]
    exact ⟨_, _, GhR.refl (Nat.le_refl _), h⟩
  · rintro i d acc κ' hd ⟨rfl, rfl⟩
    rw [List.getElem?_map] at hd
    obtain ⟨a, ha, rfl⟩ := Option.map_eq_some_iff.mp hd
    refine takes_w (bsel_i (fun ht => ⟨_, rfl, ?_, rfl, ?_⟩) fun hf => ⟨rfl, ?_⟩)
    · rw [List.length_map]; exact Nat.lt_of_le_of_lt (Nat.le_trans view_len hl) (by decide)
    · rw [view_snoc ha, if_pos ht, List.map_append]; rfl
    · rw [view_snoc ha, if_neg (by rw [hf]; exact Bool.false_ne_true), List.append_nil]
theorem rd__law_view : ∀ as κ R E', F__law_view as κ R E' → a__law_view K (endsA K κ.length R) (startA N__law_view as) κ := by
  rintro as κ R E' ⟨p, run, rfl, rfl, hl, h⟩
  refine lc_d (fun i acc κ' => κ' = [] ∧ acc = (viewT p (run.take i)).map actD) ⟨rfl, rfl⟩ ?_ ?_
  · rintro acc κ' ⟨rfl, rfl⟩
    rw [List.length_map, List.take_length]
    exact ⟨_, _, GhR.refl (Nat.le_refl _), h⟩
  · rintro i d acc κ' hd ⟨rfl, rfl⟩
    rw [List.getElem?_map] at hd
    obtain ⟨a, ha, rfl⟩ := Option.map_eq_some_iff.mp hd
    refine ⟨_, at_nat (j := 0) rfl, _, at_nat (j := 1) rfl, (show 2 ≤ sizeLine by decide), rfl, rfl, bsel_i (fun ht => ⟨_, rfl, ?_, rfl, ?_⟩) fun hf => ⟨rfl, ?_⟩⟩
    · rw [List.length_map]; exact Nat.lt_of_le_of_lt (Nat.le_trans view_len hl) (by decide)
    · have ht : inD (.str p) [.str a.p, .str a.q] = true := ht
      rw [in2] at ht
      rw [view_snoc ha, if_pos ht, List.map_append]; rfl
    · have hf : inD (.str p) [.str a.p, .str a.q] = false := hf
      rw [in2] at hf
      rw [view_snoc ha, if_neg (by rw [hf]; exact Bool.false_ne_true), List.append_nil]
theorem view_w {p : Str} {run : List Act} {κ : AK} {R : AR} {E : AX → AK → Prop} (hl : run.length ≤ 1000000) (h : R (.d (.list ((viewT p run).map actD))) κ) : callW F_view E [.d (.list (run.map actD)), .d (.str p)] κ R :=
  callW_i ⟨[], _, _, .nil, rfl, rfl, p, run, rfl, rfl, hl, Nat.zero_le _, rfl, rfl, h⟩
theorem lview_w {p : Str} {run : List Act} {κ : AK} {R : AR} {E : AX → AK → Prop} (hl : run.length ≤ 1000000) (h : R (.d (.list ((viewT p run).map actD))) κ) : callW F__law_view E [.d (.list (run.map actD)), .d (.str p)] κ R := view_w hl h
end Tab
set_option Elab.async false
set_option linter.all false
set_option maxRecDepth 100000
set_option maxHeartbeats 4000000
/-! Ab17: errors: raise, calls that may raise, try .. except -/
namespace Ab
open PySem L2
open PyProof.Rows (envOfC)
variable {K : Frg} {B B' B2 H H' H2 : Hp} {ρ ρ' ρ2 : List Addr} {κ κ' : AK} {δ : AD} {σ : L2.St} {p : Addr} {k : Nat} {v x y z : V} {a b c : AV}
variable {X : Cx} {e e2 o : Expr} {t u : TE} {f f2 : AE} {pos : Pos} {W : WX}

/-- what is wanted of the errors that leave -/
abbrev AEx := AX → AK → Prop
/-- .. over the heap -/
def HX (K : Frg) (E' : AEx) (W : WX) : Prop := ∀ B ρ κ H x cls d, G K B ρ κ H → E' x κ → RepX K B x cls d → ∀ σ : L2.St, W cls d σ H
def ExOf (W : WX) : XK := fun cls d H => ∀ σ : L2.St, W cls d σ H
theorem passR (tk : Takes X W) : Passes (L2.CX X.prog X.w) X (ExOf W) := fun pins σ H s e s' I c => tk e s' (XE.of_call I (fun cls d H' h => h σ) c)
theorem passF (tk : Takes X W) : Passes (L2.CX X.prog X.w) X (fun _ _ _ => False) := fun pins σ H s e s' I c => tk e s' (XE.of_call I (fun cls d H' h => h.elim) c)
variable {E' : AEx}

/-! ### calls that may raise -/
section
variable {l : Nat} {fa : Addr} {fd : FuncData} {ps : List Str} {F : FSp} {x : Str} {q pos : Pos} {es : List Expr} {ta : TA} {ga : AA}
theorem ea_callR (Fo : FnOk X.prog X.w X.K X.mg X.base (L2.CX X.prog X.w) l fa fd ps (spA X.K F)) (hr : Room l X.A) (tk : Takes X W) (hx : HX K E' W) (hg : Gl X x) (hm : X.mg x = some (.ref fa)) (hk : PySem.W.keepIn X.K (.ref fa) = true) (hb : Binds X.K fd ps []) (ha : PAa K X (e :: es) ta ga)
    (hdb : (x == ("__debug__" : Str)) = false := by decide) (he : starEach (e :: es) X.env = (false, eval e X.env) :: starEach es X.env := by rfl) (hpl : (backTo pos (starEach es X.env)).any (·.1) = false := by rfl) (hK : X.K = K.K := by rfl) :
    PEa K X (.Call (.Name x q) (e :: es) [] pos) (tCall (spA K F) [] (ExOf W) ta) (aCall F E' ga) := by
  obtain ⟨K, Kn, KZ, Ku⟩ := K
  change X.K = K at hK
  subst hK
  exact ⟨pe_call Fo hr hg hm hk hb .nil (passR tk) ha.pa hdb he hpl, se_call ha.sd fun B' ρ' κ' H' x cls d g h r => hx _ _ _ _ _ _ _ g h r⟩
end
theorem callW_sdR {F : FSp} {E : XK} {as : List AV} {vs : List V} {R : AR} {Q : VK} (g : G K B ρ κ H) (r : Reps K B ρ as vs) (h : callW F E' as κ R) (q : Nx K B ρ H R Q) (hx : ∀ B' ρ' κ' H' x cls d, G K B' ρ' κ' H' → E' x κ' → RepX K B' x cls d → E cls d H') : spA K F vs H Q E := by
  obtain ⟨js, asl, κl, nd, e1, e2, hF⟩ := callW_e h
  refine ⟨B, selR js ρ, κl, asl, _, _, sel_ok g nd e2, selAs_ok (fun i j p h1 h2 => selR_get h1 h2) e1 r, hF, ?_, ?_⟩
  · rintro B' ρ' κ' H' a v w2 g2 r2 ⟨l, cl, lv, hR⟩
    obtain ⟨w3, g3, r3⟩ := back_ok g nd e2 w2 g2 l cl lv
    exact q _ _ _ _ _ _ w3 g3 (r3 r2) hR
  · rintro B' ρ' κ' H' x cls d w2 g2 r2 ⟨l, cl, lv, hR⟩
    obtain ⟨w3, g3, r3⟩ := back_ok g nd e2 w2 g2 l cl lv
    exact hx _ _ _ _ _ _ _ g3 hR r2
def aMethR (C : Addr) (m : Str) (F : FSp) (E' : AEx) (fo : AE) (fa : AA) : AE := fun δ κ R => fo δ κ fun a κ1 => match a with
  | .c k => ∃ fs, κ1[k]? = some (.ins C fs) ∧ lookA m fs = none ∧ fa δ κ1 fun as κ2 => callW F E' (.c k :: as) κ2 R
  | _ => False
variable {ta : TA} {fa : AA} {es : List Expr}
theorem se_methR {C : Addr} {m : Str} {F : FSp} (ho : SE K t f) (ha : SA K ta fa) (hx : HX K E' W) : SE K (tMeth C m (spA K F) [] (ExOf W) t ta) (aMethR C m F E' f fa) := fun B ρ δ κ σ H R Q s g hh q =>
  ho B ρ δ κ σ H _ _ s g hh fun B1 ρ1 κ1 H1 a x u1 g1 r1 h1 => by
    split at h1
    · rename_i j
      obtain ⟨fs, ek, ln, h1⟩ := h1
      obtain ⟨p, hp, rfl⟩ := id r1
      obtain ⟨dx, ws, r, eH, _⟩ := g1.insAt hp ek
      refine ⟨p, dx, ws, rfl, eH, repKs_none r ln, ha _ _ _ _ _ _ _ _ (s.up u1.g) g1 h1 fun B2 ρ2 κ2 H2 as vs u2 g2 r2 h2 => ?_⟩
      show spA K F (.ref p :: (vs ++ [])) H2 Q _
      rw [List.append_nil]
      exact callW_sdR g2 (.cons (r1.up u2.g) r2) h2 (q.later (u1.trans u2)) fun B' ρ' κ' H' x cls d g h r => hx _ _ _ _ _ _ _ g h r
    · exact h1.elim
section
variable {l : Nat} {fm C : Addr} {fd : FuncData} {ps : List Str} {F : FSp} {m : Str} {apos : Pos} {pl : Sem Bool}
theorem ea_methR (Fo : FnOk X.prog X.w X.K X.mg X.base (L2.CX X.prog X.w) l fm fd ps (spA X.K F)) (hr : Room l X.A) (tk : Takes X W) (hx : HX K E' W) (hc : Cls K C) (hm : Meth K C m fm) (hb : Binds K fd ps []) (ho : PEa K X o t f) (ha : PAa K X (e :: es) ta fa)
    (hst : starEach (e :: es) X.env = (false, eval e X.env) :: starEach es X.env := by rfl) (hpl : (backTo pos (starEach es X.env)).any (·.1) = false := by rfl)
    (ht : eval (.Call (.Attribute o m apos) (e :: es) [] pos) X.env = (do
      let ov ← eval o X.env
      standAt apos.atName
      let (f, first) ← holding [ov] (getMethod ov m pl)
      callWith pos f first (backTo pos (starEach (e :: es) X.env)) (backToKw pos (keywordEach [] X.env))) := by rfl) (hK : X.K = K := by rfl) :
    PEa K X (.Call (.Attribute o m apos) (e :: es) [] pos) (tMeth C m (spA K F) [] (ExOf W) t ta) (aMethR C m F E' f fa) := by
  obtain ⟨K, Kn, KZ, Ku⟩ := K
  change X.K = K at hK
  subst hK
  exact ⟨pe_meth (pl := pl) ho.pe hc hm Fo hr hb .nil (passR tk) ha.pa hst hpl ht, se_methR ho.sd ha.sd hx⟩
theorem ea_methR0 (Fo : FnOk X.prog X.w X.K X.mg X.base (L2.CX X.prog X.w) l fm fd ps (spA X.K F)) (hr : Room l X.A) (tk : Takes X W) (hx : HX K E' W) (hc : Cls K C) (hm : Meth K C m fm) (hb : Binds K fd ps []) (ho : PEa K X o t f)
    (ht : eval (.Call (.Attribute o m apos) [] [] pos) X.env = (do
      let ov ← eval o X.env
      standAt apos.atName
      let (f, first) ← holding [ov] (getMethod ov m pl)
      callWith pos f first (backTo pos (starEach [] X.env)) (backToKw pos (keywordEach [] X.env))) := by rfl) (hK : X.K = K := by rfl) :
    PEa K X (.Call (.Attribute o m apos) [] [] pos) (tMeth C m (spA K F) [] (ExOf W) t tNil) (aMethR C m F E' f aNil) := by
  obtain ⟨K, Kn, KZ, Ku⟩ := K
  change X.K = K at hK
  subst hK
  exact ⟨pe_meth0 (pl := pl) ho.pe hc hm Fo hr hb .nil (passR tk) ht, se_methR ho.sd (fun B ρ δ κ σ H R Q s g h q => q _ _ _ _ _ _ Up.refl g .nil h) hx⟩
end
/-! a new object whose __init__ may raise -/
def aMakeR (C : Addr) (F : FSp) (E' : AEx) (fa : AA) : AE := fun δ κ R => fa δ κ fun as κ1 => callW F E' (.c κ1.length :: as) (κ1 ++ [.ins C []]) fun a κ2 => a = .d .none ∧ R (.c κ1.length) κ2
theorem se_makeR {C : Addr} {F : FSp} (ha : SA K ta fa) (hx : HX K E' W) : SE K (tMake C (spA K F) [] (ExOf W) ta) (aMakeR C F E' fa) := fun B ρ δ κ σ H R Q s g hh q =>
  ha B ρ δ κ σ H _ _ s g hh fun B1 ρ1 κ1 H1 as vs u1 g1 r1 h1 => by
    intro x dx hx' hdx hne
    show spA K F (.ref x :: (vs ++ [])) _ _ _
    rw [List.append_nil]
    have nin : ∀ {q : Addr}, H1 q = none → q ∉ ρ1 := fun {q} hq z => by
      obtain ⟨i, hi⟩ := List.mem_iff_getElem?.mp z
      exact g1.nin hq hi rfl
    have g2 : G K B1 ρ1 κ1 (upd H1 dx (.own x)) := g1.off (g1.fresh hdx) (nin hdx) (K.up _ _ _ _ _ _ (Up.refl.off hdx).n g1.z)
    have hx2 : (upd H1 dx (.own x)) x = none := by rw [upd_ne (Ne.symm hne)]; exact hx'
    have g3 : G K B1 (ρ1 ++ [x]) (κ1 ++ [.ins C []]) (upd (upd H1 dx (.own x)) x (.ins C dx [])) := g2.alloc hx2 (show CellOk K B1 ρ1 _ x (.ins C []) from ⟨g1.fresh hx', dx, [], .nil, upd_same⟩)
    have up3 : Up B1 ρ1 H1 B1 (ρ1 ++ [x]) (upd (upd H1 dx (.own x)) x (.ins C dx [])) := ⟨Same.refl B1, fun _ _ h => get_app h, fun q o' h1 h2 h3 => by
      have n1 := ne_of_none h1 hx'
      have n2 := ne_of_none h1 hdx
      rw [upd_ne n1, upd_ne n2]
      refine ⟨h1, h2, fun z => ?_⟩
      rcases List.mem_append.mp z with z | z
      · exact h3 z
      · exact n1 (by simpa using z)⟩
    have rx : Rep K B1 (ρ1 ++ [x]) (.c κ1.length) (.ref x) := rep_new g1
    refine callW_sdR g3 (.cons rx (Reps.up up3.g r1)) h1 ?_ fun B' ρ' κ' H' x cls d g h r => hx _ _ _ _ _ _ _ g h r
    rintro B4 ρ4 κ4 H4 a v w4 g4 r4 ⟨rfl, hR⟩
    exact ⟨r4.non, q _ _ _ _ _ _ ((u1.trans up3).trans w4) g4 (rx.up w4.g) hR⟩
section
variable {l : Nat} {fI C : Addr} {fd : FuncData} {ps : List Str} {F : FSp} {x : Str} {q : Pos}
theorem ea_makeR (M : Mk K C fI) (Fo : FnOk X.prog X.w X.K X.mg X.base (L2.CX X.prog X.w) l fI fd ps (spA X.K F)) (hr : Room (l + 1) X.A) (tk : Takes X W) (hx : HX K E' W) (hg : Gl X x) (hm : X.mg x = some (.ref C)) (hb : Binds K fd ps []) (ha : PAa K X (e :: es) ta fa)
    (hdb : (x == ("__debug__" : Str)) = false := by decide) (he : starEach (e :: es) X.env = (false, eval e X.env) :: starEach es X.env := by rfl) (hpl : (backTo pos (starEach es X.env)).any (·.1) = false := by rfl) (hK : X.K = K := by rfl) :
    PEa K X (.Call (.Name x q) (e :: es) [] pos) (tMake C (spA K F) [] (ExOf W) ta) (aMakeR C F E' fa) := by
  obtain ⟨K, Kn, KZ, Ku⟩ := K
  change X.K = K at hK
  subst hK
  exact ⟨pe_make M Fo hr hg hm hb .nil (passR tk) ha.pa hdb he hpl, se_makeR ha.sd hx⟩
end

/-! ### raise -/
/-- what the top says of an error's class -/
structure ExF (K : PySem.W.Frag) (nm : Str) (C : Addr) : Prop where
  ns : PySem.W.nsIn K mainGlobals nm = some (some (.ref C))
  ox : OexC K C
/-- __init__(self, y): self.f = y, of an error -/
def spInit (K : PySem.W.Frag) (C : Addr) (f : Str) : Sp := fun vs H Q E => ∃ (a : Addr) (y : V), vs = [.ref a, y] ∧ H a = some (exo a C none) ∧ ∀ dx, H dx = none → dx ≠ a → Q .non (upd (upd H dx (exd dx [(f, y)])) a (exo a C (some dx)))
theorem spInit_len {K : PySem.W.Frag} {C : Addr} {f s y : Str} : ∀ vs H Q E, spInit K C f vs H Q E → vs.length = [s, y].length := by
  rintro vs H Q E ⟨a, y, rfl, _⟩; rfl
section
variable {P : Program} {w : World} {K : PySem.W.Frag} {mg : Str → Option Value} {base : Heap}
theorem init_ok {C : Addr} {fld self arg qual : Str} {st : Stmt} {fa : Addr} {fd : FuncData} {N : List Str} (Fu : Fun K "__init__" qual st fa fd) (Sc : FnScope N [self, arg] (defScope st)) (T : OexC K C) (hno : PySem.W.findIn K (.ref C) fld = some none)
    (hb : ∀ cdv A outer s H E, PSs (cxOf CX0 P w K mg base N qual (defScope st) fa cdv A outer s H E).nox (defBody st) (tOst K fld (tVar 0) (tVar 1))) : FnOk P w K mg base CX0 1 fa fd [self, arg] (spInit K C fld) :=
  Fu.ok Sc spInit_len fun cdv A outer s H vs Q E hr ⟨a, y, ev, ea, q⟩ => by
    subst ev
    refine ⟨_, hb cdv A outer s H E, ?_⟩
    exact ⟨y, rfl, .ref a, rfl, a, C, rfl, T, hno, .inl ⟨ea, fun dx n ne => q dx n ne⟩⟩
end
/-- raise C(e) -/
def aRaise (nm f : Str) (E' : AEx) (fa : AA) : AS := fun A δ κ => fa δ κ fun as κ1 => match as with
  | [.d x] => E' ⟨nm, [(f, x)]⟩ κ1
  | _ => False
/-- raise C() -/
def aRaise0 (nm : Str) (E' : AEx) : AS := fun A δ κ => E' ⟨nm, []⟩ κ
theorem upd_mk {H1 : Hp} {a dx C : Addr} {f : Str} {y : V} (ha : H1 a = none) (hd : H1 dx = none) (ne : dx ≠ a) : upd (del (upd (upd (upd H1 a (exo a C none)) dx (exd dx [(f, y)])) a (exo a C (some dx))) a) dx (.xd [(f, y)]) = upd H1 dx (.xd [(f, y)]) := by
  funext b
  by_cases hb : b = dx
  · subst hb; rw [upd_same, upd_same]
  · rw [upd_ne hb, upd_ne hb]
    by_cases h2 : b = a
    · subst h2; rw [del_same, ha]
    · rw [del_ne h2, upd_ne h2, upd_ne hb, upd_ne h2]
section
variable {C fI : Addr} {l : Nat} {fd : FuncData} {ps : List Str} {x fld : Str} {q : Pos}
theorem sa_raise (T : ExF X.K x C) (iC : PySem.W.findIn X.K (.ref C) "__init__" = some (some (.ref fI))) (tI : PySem.W.typeIn X.K (.ref fI) = some (.type "function")) (F1 : FnOk X.prog X.w X.K X.mg X.base CX0 l fI fd ps (spInit X.K C fld)) (hr : Room (l + 1) X.A) (hb : Binds X.K fd ps [])
    (hc : X.calm = true) (tk : Takes X W) (hx : HX K E' W) (hg : Gl X x) (hm : X.mg x = some (.ref C)) (ha : PAa K X (e :: es) ta fa)
    (hdb : (x == ("__debug__" : Str)) = false := by decide) (he : starEach (e :: es) X.env = (false, eval e X.env) :: starEach es X.env := by rfl) (hpl : (backTo pos (starEach es X.env)).any (·.1) = false := by rfl) (hK : X.K = K.K := by rfl) {pos2 : Pos} :
    PSa K X (.Raise (some (.Call (.Name x q) (e :: es) [] pos)) none pos2) (fun D σ H => tMkO C (spInit X.K C fld) [] ta σ H fun cls d H' => W cls d σ H') (aRaise x fld E' fa) := by
  obtain ⟨K, Kn, KZ, Ku⟩ := K
  change X.K = K at hK
  subst hK
  refine ⟨ps_raise hc tk (pmk_oex T.ox iC tI F1 hr hb .nil (fun _ _ _ _ _ _ _ h => h.elim) hg hm ha.pa hdb he hpl), fun B ρ δ κ σ H A D s g l h im => ha.sd B ρ δ κ σ H _ _ s g h fun B1 ρ1 κ1 H1 as vs w1 g1 r1 h1 => ?_⟩
  split at h1
  · rename_i xd
    obtain ⟨y, rfl, ry⟩ := reps1 r1
    refine ⟨by simp, fun a0 ha0 => ⟨a0, y, rfl, upd_same, fun dx hdx hne => ⟨rfl, dx, [(fld, y)], upd_same, ?_, ?_, ?_⟩⟩⟩
    · rw [upd_ne hne]; exact upd_same
    · rw [upd_ne hne] at hdx; exact hdx
    · have hd1 : H1 dx = none := by rw [upd_ne hne] at hdx; exact hdx
      rw [upd_mk ha0 hd1 hne]
      obtain ⟨u, g2⟩ := g1.data hd1 (o := .xd [(fld, y)])
      exact hx _ _ _ _ _ _ _ g2 h1 ⟨T.ns, .inr ⟨dx, [(fld, y)], rfl, upd_same, .cons ⟨rfl, dp_up u.s _ _ ry⟩ .nil⟩⟩ σ
  · exact h1.elim
end
end Ab
set_option Elab.async false
set_option linter.all false
set_option maxRecDepth 100000
set_option maxHeartbeats 4000000
/-! Ab18: defs that may raise; try .. except x as n -/
namespace Ab
open PySem L2
open PyProof.Rows (envOfC)
variable {B B' B2 H H' H2 : Hp} {ρ ρ' ρ2 : List Addr} {κ κ' : AK} {δ : AD} {σ : L2.St} {p : Addr} {k : Nat} {v x y z : V} {a b c : AV}
variable {X : Cx} {e e2 o : Expr} {t u : TE} {f f2 : AE} {pos : Pos} {W : WX}
/-- an error at the def's end: the state may be told anew -/
def endX (K : PySem.W.Frag) (n : Nat) (E' : AEx) : AEx := fun x κ => ∃ a' κ', GhR K n (.d .none) κ a' κ' ∧ E' x κ'
theorem UpN.lenN {n : Nat} (w : UpN n B ρ H B' ρ' H') (h : n ≤ ρ.length) : n ≤ ρ'.length := by
  by_cases e : n = 0
  · omega
  · have h1 : n - 1 < ρ.length := by omega
    have := (List.getElem?_eq_some_iff.mp (w.p (n - 1) _ (by omega) (List.getElem?_eq_getElem h1))).1
    omega
section
variable {K : PySem.W.Frag} {P : Program} {w : World} {mg : Str → Option Value} {base : Heap}
/-- THE RULE for a def that may raise -/
theorem fn_okR {x qual : Str} {st : Stmt} {fa : Addr} {fd : FuncData} {N ps : List Str} {l : Nat} {F : FSp} {fb : AEx → AS} (Fu : Fun K x qual st fa fd) (Sc : FnScope N ps (defScope st)) (hl : ∀ as κ R E', F as κ R E' → as.length = ps.length)
    (hb : ∀ (cdv : Value) (A : Around) (outer : List Env) (s : Shared) (H : Hp) (E : XK), Room l (A.deeper (envOfC qual (defScope st) s.heap.objs.size fa cdv)) →
      ∀ (W : WX), Takes (cxOf (L2.CX P w) P w K mg base N qual (defScope st) fa cdv A outer s H E) W → PassesOwn (model P w) (cxOf (L2.CX P w) P w K mg base N qual (defScope st) fa cdv A outer s H E).A (cxOf (L2.CX P w) P w K mg base N qual (defScope st) fa cdv A outer s H E).env (cxOf (L2.CX P w) P w K mg base N qual (defScope st) fa cdv A outer s H E).xe →
      ∀ (n : Nat) (Z : Hp → List Addr → Hp → Prop) (up : ∀ B ρ H B' ρ' H', UpN n B ρ H B' ρ' H' → Z B ρ H → Z B' ρ' H') (E' : AEx), HX ⟨K, n, Z, up⟩ E' W →
      ∃ t, PSsa ⟨K, n, Z, up⟩ (cxOf (L2.CX P w) P w K mg base N qual (defScope st) fa cdv A outer s H E) (defBody st) t (fb E'))
    (hF : ∀ as κ R E', F as κ R E' → fb (endX K κ.length E') (endsA K κ.length R) (startA N as) κ) : FnOk P w K mg base (L2.CX P w) (l + 1) fa fd ps (spA K F) :=
  Fu.okX Sc (spA_len hl) fun cdv A outer s H vs Q E hr h => by
    obtain ⟨B, ρ, κ, as, R, E', g, r, hf, q, qe⟩ := h
    have hx : HX ⟨K, κ.length, fun B' ρ' H' => UpN κ.length B ρ H B' ρ' H', fun _ _ _ _ _ _ w2 w1 => w1.trans w2⟩ (endX K κ.length E') (fun cls d _ H => E cls d H) := by
      intro B1 ρ1 κ1 H1 x cls d g1 ⟨a', κ2, gh, hE⟩ rx σ
      obtain ⟨B2, ρ2, w2, r2, g2⟩ := gh.2 B1 ρ1 H1 .non g1.plain rp_non
      have z : UpN κ.length B ρ H B1 ρ1 H1 := g1.z
      exact qe _ _ _ _ _ _ _ ((z.trans w2).full (by rw [g.len]; exact Nat.le_refl _)) g2 (rx.up w2.s) hE
    obtain ⟨t, hp⟩ := hb cdv A outer s H E hr _ (takes_of rfl rfl rfl rfl) (passes_of rfl) _ _ _ _ hx
    refine ⟨t, hp.ps, ?_⟩
    have gz : G ⟨K, κ.length, fun B' ρ' H' => UpN κ.length B ρ H B' ρ' H', fun _ _ _ _ _ _ w2 w1 => w1.trans w2⟩ B ρ κ H := G.zone (K := ⟨K, κ.length, fun B' ρ' H' => UpN κ.length B ρ H B' ρ' H', fun _ _ _ _ _ _ w2 w1 => w1.trans w2⟩) g UpN.refl
    have fin : ∀ B' ρ' κ' H' a v, UpN κ.length B ρ H B' ρ' H' → G (Frg.of K) B' ρ' κ' H' → Rep K B' ρ' a v → (∃ a' κ2, GhR K κ.length a κ' a' κ2 ∧ R a' κ2) → Q v H' := fun B' ρ' κ' H' a v w g' ra ⟨a', κ2, gh, hR⟩ => by
      obtain ⟨B2, ρ2, w2, r2, g2⟩ := gh.2 B' ρ' H' v g' ra
      exact q _ _ _ _ _ _ ((w.trans w2).full (by rw [g.len]; exact Nat.le_refl _)) g2 r2 hR
    refine hp.sd B ρ (startA N as) κ (L2.start N vs) H (endsA K κ.length R) _ (s_start r) gz (Nat.le_refl _) (hF as κ R E' hf) ⟨?_, ?_, ?_, ?_, Nat.le_refl _⟩
    · exact fun B' ρ' κ' H' δ' σ' w g' s' l h' => fin _ _ _ _ _ _ w g'.plain rp_non h'
    · exact fun B' ρ' κ' H' a v w g' ra l h' => fin _ _ _ _ _ _ w g'.plain ra h'
    · exact fun _ _ _ _ _ _ _ _ _ _ h' => h'.elim
    · exact fun _ _ _ _ _ _ _ _ _ _ h' => h'.elim
end
variable {K : Frg}
/-! ### try: body, except x as n: suite -/
/-- .. of slots of this length -/
def lenW (N : Nat) (W : WX) : WX := fun cls d σ H => σ.length = N → W cls d σ H
theorem takes_len (tk : Takes X W) : Takes X (lenW X.N.length W) := fun u s' ⟨a, B, sI, pins, σ, H, cls, d, e, I, nb, up, sky, na, os, ag, w⟩ => tk u s' ⟨a, B, sI, pins, σ, H, cls, d, e, I, nb, up, sky, na, os, ag, w I.len⟩
/-- a wish that takes whatever comes -/
def xeAny (X : Cx) : Value → Shared → Prop := fun e s₁ => wpAny (model X.prog X.w) X.A (noteFrame e X.env) (fun _ s₂ => wpAny (model X.prog X.w) X.A (setFlight e none) (fun _ _ => True) (fun _ _ => False) s₂) (fun _ _ => False) s₁
theorem passes_any : PassesOwn (model X.prog X.w) X.A X.env (xeAny X) := PassesOwn.looking
theorem takes_any {pn : List (Addr × Obj)} (hs : X.stack = X.env :: X.outer) (hf : X.env.frame = some X.env.locals) : Takes (X.tr pn (xeAny X)) W := fun u s' ⟨a, B, sI, pins, σ, H, cls, d, e, I, nb, up, sky, na, os, ag, w⟩ => by
  subst e
  have hfr : X.A.frames = some (X.env :: X.outer) := by
    have := I.ok.frames
    exact this.trans (by rw [← hs])
  have sky' : Sky B (X.env :: X.outer) a (Zc cls d) X.env.locals s'.heap := by rw [← hs]; exact sky
  exact Sky.land Zc.steady hfr hf sky' fun _ _ _ => True.intro
def exTry (N : Nat) (i : Nat) (exm : Str → Option Bool) (fs : Addr → AX → AS) (Eo : AEx) (A : AEnds) : AEx := fun xa κ => ∃ b, exm xa.cls = some b ∧ (b = true → ∀ a, fs a xa { n := A.n, nx := fun δ κ => A.nx (δ.set i none) κ, rt := A.rt, bk := fun δ κ => A.bk (δ.set i none) κ, ct := fun δ κ => A.ct (δ.set i none) κ } ((List.replicate N none).set i (some (.r (.ref a)))) κ) ∧ (b = false → Eo xa κ)
def aTryAs (N : Nat) (i : Nat) (exm : Str → Option Bool) (fb : AEx → AS) (fs : Addr → AX → AS) (Eo : AEx) : AS := fun A δ κ => fb (exTry N i exm fs Eo A) A δ κ
section
variable {x n : Str} {c : Value} {i : Nat} {body suite : List Stmt} {b₀ : Stmt} {np pos' : Pos} {Wout : WX} {Eo : AEx} {exm : Str → Option Bool} {fb : AEx → AS} {fs : Addr → AX → AS} {tb : WX → (n : Nat) → (Z : Hp → List Addr → Hp → Prop) → (∀ B ρ H B' ρ' H', UpN n B ρ H B' ρ' H' → Z B ρ H → Z B' ρ' H') → TS} {ts : Addr → Value → Option Addr → (n : Nat) → (Z : Hp → List Addr → Hp → Prop) → (∀ B ρ H B' ρ' H', UpN n B ρ H B' ρ' H' → Z B ρ H → Z B' ρ' H') → TS}
theorem sa_tryAs (hs : X.stack = X.env :: X.outer) (hf : X.env.frame = some X.env.locals) (hN : X.N.Nodup) (hi : X.N[i]? = some n) (hln : X.env.kindOf n = some .local) (hc : Names X x c) (tk : Takes X Wout) (hxo : HX K Eo Wout)
    (hm : ∀ nm cls b, exm nm = some b → PySem.W.nsIn X.K mainGlobals nm = some (some cls) → PySem.W.exmOne X.K cls c = some b)
    (hb : ∀ (W : WX) (pn : List (Addr × Obj)) (xe : Value → Shared → Prop) (n : Nat) (Z : Hp → List Addr → Hp → Prop) (up : ∀ B ρ H B' ρ' H', UpN n B ρ H B' ρ' H' → Z B ρ H → Z B' ρ' H') (E' : AEx), Takes (X.tr pn xe) W → PassesOwn (model X.prog X.w) X.A X.env xe → HX ⟨K.K, n, Z, up⟩ E' W →
      PSsa ⟨K.K, n, Z, up⟩ (X.tr pn xe) body (tb W n Z up) (fb E'))
    (hsu : ∀ (a : Addr) (oe : Obj) (cls : Value) (d : Option Addr) (pn : List (Addr × Obj)) (xa : AX) (n : Nat) (Z : Hp → List Addr → Hp → Prop) (up : ∀ B ρ H B' ρ' H', UpN n B ρ H B' ρ' H' → Z B ρ H → Z B' ρ' H'), Zc cls d oe → (∃ vs, oe.data = .fields vs) → (∀ B ρ H, Z B ρ H → RepX X.K B xa cls d) →
      PSsa ⟨K.K, n, Z, up⟩ (X.suite a ((a, oe) :: pn)) (b₀ :: suite) (ts a cls d n Z up) (fs a xa)) (hK : X.K = K.K := by rfl) :
    PSa K X (.Try body [.ExceptHandler (some (.Name x np)) (some n) (b₀ :: suite) pos'] [] [] pos)
      (fun D σ H => ∃ (n : Nat) (Z : Hp → List Addr → Hp → Prop) (up : ∀ B ρ H B' ρ' H', UpN n B ρ H B' ρ' H' → Z B ρ H → Z B' ρ' H') (E' : AEx), HX ⟨K.K, n, Z, up⟩ E' (lenW X.N.length (wAs X.K c i (fun a cls d D σ H => ∃ (n : Nat) (Z : Hp → List Addr → Hp → Prop) (up : ∀ B ρ H B' ρ' H', UpN n B ρ H B' ρ' H' → Z B ρ H → Z B' ρ' H') (xa : AX), (∀ B ρ H, Z B ρ H → RepX X.K B xa cls d) ∧ ts a cls d n Z up D σ H) Wout D)) ∧
        tb (lenW X.N.length (wAs X.K c i (fun a cls d D σ H => ∃ (n : Nat) (Z : Hp → List Addr → Hp → Prop) (up : ∀ B ρ H B' ρ' H', UpN n B ρ H B' ρ' H' → Z B ρ H → Z B' ρ' H') (xa : AX), (∀ B ρ H, Z B ρ H → RepX X.K B xa cls d) ∧ ts a cls d n Z up D σ H) Wout D)) n Z up D σ H)
      (aTryAs X.N.length i exm fb fs Eo) := by
  refine ⟨ps_try_as (tb := fun W D σ H => ∃ (n : Nat) (Z : Hp → List Addr → Hp → Prop) (up : ∀ B ρ H B' ρ' H', UpN n B ρ H B' ρ' H' → Z B ρ H → Z B' ρ' H') (E' : AEx), HX ⟨K.K, n, Z, up⟩ E' (lenW X.N.length W) ∧ tb (lenW X.N.length W) n Z up D σ H)
    (ts := fun a cls d D σ H => ∃ (n : Nat) (Z : Hp → List Addr → Hp → Prop) (up : ∀ B ρ H B' ρ' H', UpN n B ρ H B' ρ' H' → Z B ρ H → Z B' ρ' H') (xa : AX), (∀ B ρ H, Z B ρ H → RepX X.K B xa cls d) ∧ ts a cls d n Z up D σ H) hs hf hN hi hln hc tk
    (fun W pn xe tk2 po => ⟨fun pins s σ H D I ⟨n, Z, up, E', hx, h⟩ => (hb (lenW X.N.length W) pn xe n Z up E' (takes_len tk2) po hx).ps.run pins s σ H D I h⟩)
    (fun a oe cls d pn hz hd => ⟨fun pins s σ H D I ⟨n, Z, up, xa, hr, h⟩ => (hsu a oe cls d pn xa n Z up hz hd hr).ps.run pins s σ H D I h⟩), ?_⟩
  intro B ρ δ κ σ H A D s g l h im
  have lρ : A.n ≤ ρ.length := by rw [g.len]; exact l
  have hx : HX ⟨K.K, A.n, fun B' ρ' H' => K.Z B' ρ' H' ∧ UpN A.n B ρ H B' ρ' H', fun _ _ _ _ _ _ w z => ⟨K.up _ _ _ _ _ _ (w.mono im.kn) z.1, z.2.trans w⟩⟩ (exTry X.N.length i exm fs Eo A) (lenW X.N.length (wAs X.K c i (fun a cls d D σ H => ∃ (n : Nat) (Z : Hp → List Addr → Hp → Prop) (up : ∀ B ρ H B' ρ' H', UpN n B ρ H B' ρ' H' → Z B ρ H → Z B' ρ' H') (xa : AX), (∀ B ρ H, Z B ρ H → RepX X.K B xa cls d) ∧ ts a cls d n Z up D σ H) Wout D)) := by
    intro B1 ρ1 κ1 H1 xa cls d g1 ⟨b, hb1, hy, hn⟩ rx σ1 hσ
    have z1 : K.Z B1 ρ1 H1 ∧ UpN A.n B ρ H B1 ρ1 H1 := g1.z
    have gk : G K B1 ρ1 κ1 H1 := G.zone g1.plain z1.1
    refine ⟨b, hm _ _ _ hb1 (by rw [hK]; exact rx.1), fun eb a na => ?_, fun eb => hxo _ _ _ _ _ _ _ gk (hn eb) rx σ1⟩
    refine ⟨K.n, fun B' ρ' H' => K.Z B' ρ' H' ∧ RepX K.K B' xa cls d, fun _ _ _ _ _ _ w z => ⟨K.up _ _ _ _ _ _ w z.1, z.2.up w.s⟩, xa, fun _ _ _ z => by rw [hK]; exact z.2, ?_⟩
    have im1 := im.later z1.2
    refine (hsu a { cls := cls, dict := d, data := .fields #[] } cls d [] xa K.n (fun B' ρ' H' => K.Z B' ρ' H' ∧ RepX K.K B' xa cls d) (fun _ _ _ _ _ _ w z => ⟨K.up _ _ _ _ _ _ w z.1, z.2.up w.s⟩) ⟨rfl, rfl⟩ ⟨_, rfl⟩ (fun _ _ _ z => by rw [hK]; exact z.2)).sd
      B1 ρ1 _ κ1 _ H1 _ _ ?_ (G.zone (K := ⟨K.K, K.n, fun B' ρ' H' => K.Z B' ρ' H' ∧ RepX K.K B' xa cls d, fun _ _ _ _ _ _ w z => ⟨K.up _ _ _ _ _ _ w z.1, z.2.up w.s⟩⟩) g1.plain ⟨z1.1, rx⟩) ?_ (hy eb a) ⟨?_, ?_, ?_, ?_, im.kn⟩
    · refine ⟨by rw [List.length_set, List.length_set, List.length_replicate, hσ], fun j b hj => ?_⟩
      rw [List.getElem?_set] at hj
      split at hj
      · rename_i ej
        split at hj
        · rename_i lj
          rw [List.length_replicate] at lj
          cases hj
          subst ej
          exact ⟨.ref a, by rw [List.getElem?_set_self (by rw [hσ]; exact lj)], rfl⟩
        · cases hj
      · rw [List.getElem?_replicate] at hj
        split at hj
        · cases hj
        · cases hj
    · show A.n ≤ κ1.length
      rw [← gk.len]
      exact z1.2.lenN lρ
    · exact fun B' ρ' κ' H' δ' σ' w g' s' l' h' => im1.nx _ _ _ _ _ _ w (G.zone g'.plain g'.z.1) s'.clr l' h'
    · exact fun B' ρ' κ' H' a v w g' r' l' h' => im1.rt _ _ _ _ _ _ w (G.zone g'.plain g'.z.1) r' l' h'
    · exact fun B' ρ' κ' H' δ' σ' w g' s' l' h' => im1.bk _ _ _ _ _ _ w (G.zone g'.plain g'.z.1) s'.clr l' h'
    · exact fun B' ρ' κ' H' δ' σ' w g' s' l' h' => im1.ct _ _ _ _ _ _ w (G.zone g'.plain g'.z.1) s'.clr l' h'
  refine ⟨A.n, _, _, exTry X.N.length i exm fs Eo A, hx, ?_⟩
  refine (hb (lenW X.N.length (wAs X.K c i _ Wout D)) [] (xeAny X) A.n (fun B' ρ' H' => K.Z B' ρ' H' ∧ UpN A.n B ρ H B' ρ' H') (fun _ _ _ _ _ _ w z => ⟨K.up _ _ _ _ _ _ (w.mono im.kn) z.1, z.2.trans w⟩) (exTry X.N.length i exm fs Eo A) (takes_any hs hf) passes_any hx).sd B ρ δ κ σ H A D s
      (G.zone (K := ⟨K.K, A.n, fun B' ρ' H' => K.Z B' ρ' H' ∧ UpN A.n B ρ H B' ρ' H', fun _ _ _ _ _ _ w z => ⟨K.up _ _ _ _ _ _ (w.mono im.kn) z.1, z.2.trans w⟩⟩) g.plain ⟨g.z, UpN.refl⟩) l h ⟨?_, ?_, ?_, ?_, Nat.le_refl _⟩
  · exact fun B' ρ' κ' H' δ' σ' w g' s' l' h' => im.nx _ _ _ _ _ _ w (G.zone g'.plain g'.z.1) s' l' h'
  · exact fun B' ρ' κ' H' a v w g' r' l' h' => im.rt _ _ _ _ _ _ w (G.zone g'.plain g'.z.1) r' l' h'
  · exact fun B' ρ' κ' H' δ' σ' w g' s' l' h' => im.bk _ _ _ _ _ _ w (G.zone g'.plain g'.z.1) s' l' h'
  · exact fun B' ρ' κ' H' δ' σ' w g' s' l' h' => im.ct _ _ _ _ _ _ w (G.zone g'.plain g'.z.1) s' l' h'
end
end Ab
set_option Elab.async false
set_option linter.all false
set_option maxRecDepth 100000
set_option maxHeartbeats 4000000
/-! Ab19: within an except suite: fields, isinstance, a call that is given the error -/
namespace Ab
open PySem L2
open PyProof.Rows (envOfC)
variable {K : Frg} {B B' B2 H H' H2 : Hp} {ρ ρ' ρ2 : List Addr} {κ κ' : AK} {δ : AD} {σ : L2.St} {p : Addr} {k : Nat} {v x y z : V} {a b c : AV}
variable {X : Cx} {e e2 o : Expr} {t u : TE} {f f2 : AE} {pos : Pos} {W : WX}
theorem dpks_lookup {K : PySem.W.Frag} {fs : List (Str × PyData)} {ws : List (Str × V)} (h : DpKs K B fs ws) {n : Str} {d : PyData} (e : fs.lookup n = some d) : ∃ w, ws.lookup n = some w ∧ Dp K B w d := by
  induction h with
  | nil => cases e
  | @cons p q ps qs h1 _ ih =>
    obtain ⟨s, d'⟩ := p
    obtain ⟨s', w'⟩ := q
    obtain ⟨e1, r⟩ := h1
    have e1 : s = s' := e1
    subst e1
    by_cases hs : n = s
    · subst hs
      have : ((n, d') :: ps).lookup n = some d' := by simp [List.lookup]
      rw [this] at e
      cases e
      exact ⟨w', by simp [List.lookup], r⟩
    · have hb : (n == s) = false := by simpa using hs
      have e2 : ((s, d') :: ps).lookup n = ps.lookup n := by simp [List.lookup, hb]
      rw [e2] at e
      obtain ⟨w, h3, h4⟩ := ih e
      exact ⟨w, by simpa [List.lookup, hb] using h3, h4⟩
/-! ### e.f -/
def isEx (a : Addr) : AV → Prop
  | .r u => u = .ref a
  | _ => False
theorem isEx_ref {a : Addr} {b : AV} {v : V} {B : Hp} {ρ : List Addr} {K : PySem.W.Frag} (h : isEx a b) (r : Rep K B ρ b v) : v = .ref a := by
  cases b with
  | r u => exact (show v = u from r).trans h
  | d x => exact h.elim
  | c k => exact h.elim
def aXf (f : Str) (a : Addr) (xa : AX) (nms : List Str) (fe : AE) : AE := fun δ κ R => xa.cls ∈ nms ∧ ∃ x, xa.fs.lookup f = some x ∧ fe δ κ fun v κ1 => isEx a v ∧ R (.d x) κ1
def tXfG (K : PySem.W.Frag) (a : Addr) (cls : Value) (d : Option Addr) (f : Str) (te : TE) : TE := fun σ H Q => ∃ C, (XfC K C ∧ PySem.W.findIn K (.ref C) f = some none) ∧ tXf a cls d C f te σ H Q
section
variable {ad : Addr} {oe : Obj} {cls : Value} {d : Option Addr} {pn : List (Addr × Obj)} {xa : AX} {nms : List Str} {fld : Str}
/-- what the top says of an error's field -/
def FldOk (K : PySem.W.Frag) (nms : List Str) (fld : Str) : Prop := ∀ nm ∈ nms, ∃ C, PySem.W.nsIn K mainGlobals nm = some (some (.ref C)) ∧ XfC K C ∧ PySem.W.findIn K (.ref C) fld = some none
theorem ea_xf (hz : Zc cls d oe) (hd : ∃ vs, oe.data = .fields vs) (hr : ∀ B ρ H, K.Z B ρ H → RepX X.K B xa cls d) (tab : FldOk X.K nms fld) (h : PEa K (X.suite ad ((ad, oe) :: pn)) e t f)
    (hb : attributeBase e fld (X.suite ad ((ad, oe) :: pn)).env (eval e (X.suite ad ((ad, oe) :: pn)).env) = eval e (X.suite ad ((ad, oe) :: pn)).env := by rfl) (hK : X.K = K.K := by rfl) :
    PEa K (X.suite ad ((ad, oe) :: pn)) (.Attribute e fld pos) (tXfG X.K ad cls d fld t) (aXf fld ad xa nms f) := by
  refine ⟨⟨fun pins s σ H Q I ⟨C, ⟨T, hno⟩, q⟩ => (pe_xf T hno hz hd h.pe hb).run pins s σ H Q I q⟩, fun B ρ δ κ σ H R Q s g hh q => ?_⟩
  obtain ⟨hm, xd, hl, hh⟩ := hh
  obtain ⟨C, ns, T, hno⟩ := tab _ hm
  have rx := hr _ _ _ g.z
  have ec : cls = .ref C := by
    have := rx.1.symm.trans ns
    cases this; rfl
  refine ⟨C, ⟨T, hno⟩, h.sd B ρ δ κ σ H _ _ s g hh fun B1 ρ1 κ1 H1 av vv w1 g1 r1 h1 => ⟨isEx_ref h1.1 r1, ec, ?_⟩⟩
  rcases (hr _ _ _ g1.z).2 with ⟨_, e0⟩ | ⟨dd, ws, ed, eb, rd⟩
  · rw [e0] at hl; cases hl
  · obtain ⟨w, e1, e2⟩ := dpks_lookup rd hl
    exact ⟨dd, ws, w, ed, g1.ex _ _ eb, e1, q _ _ _ _ _ _ w1 g1 (by rw [hK] at e2; exact e2) h1.2⟩
end
/-! ### isinstance(e, C) -/
/-- an error that is held, at ad -/
def Pinned (X : Cx) (ad : Addr) (cls : Value) (d : Option Addr) : Prop := ∃ oe, (ad, oe) ∈ X.pn ∧ Zc cls d oe ∧ ∃ vs, oe.data = .fields vs
def exKind (x y : Str) : Bool := decide (x = y) || decide (y = "ValueError") || decide (y = "PactError")
/-- the classes xs of errors before the class cv, called y -/
def KindOk (K : PySem.W.Frag) (xs : List Str) (y : Str) (cv : Value) : Prop := ∀ x ∈ xs, ∃ D, PySem.W.nsIn K mainGlobals x = some (some (.ref D)) ∧ ExcC K D ∧ PySem.W.kitOne K (.ref D) cv = some (exKind x y)
def rIsX (K : PySem.W.Frag) (cls : Value) (d : Option Addr) (a : Addr) : List V → Hp → VK → Prop := fun xs H Q => ∃ (c : V) (cv : Value) (b : Bool) (D : Addr), xs = [.ref a, c] ∧ (∀ u, RelV c u → u = cv) ∧ cls = .ref D ∧ ExcC K D ∧ (d = none ∨ ∃ dd fs, d = some dd ∧ H dd = some (.xd fs)) ∧ PySem.W.kitOne K cls cv = some b ∧ Q (.bl b) H
theorem call_isX {ad : Addr} {cls : Value} {d : Option Addr} (hp : Pinned X ad cls d) : CallR X (.builtin "isinstance") (rIsX X.K cls d ad) := by
  intro pins s σ H xs us Q I r h
  obtain ⟨c, cv, b, D, rfl, hcv, ec, C, hd, e, q⟩ := h
  obtain ⟨oe, hm, hz, vs, hv⟩ := hp
  cases r with
  | cons rx rr =>
    cases rr with
    | cons rt rr =>
      cases rr
      cases rx
      have e2 := hcv _ rt
      subst e2
      subst ec
      obtain ⟨hget, _⟩ := I.pin (ad, oe) (List.mem_append_left _ hm)
      obtain ⟨cd, hcl, _⟩ := PySem.W.any_some C.hd
      have hcl' : (PySem.W.clsIn X.K D).isSome = true := by rw [hcl]; rfl
      have J : ∃ od, PySem.W.InstAt s.heap ad oe D od := by
        rcases hd with hd | ⟨dd, fs, ed, eH⟩
        · obtain ⟨oc, od, oda, osl⟩ := oe
          obtain ⟨h1, h2⟩ := hz
          dsimp only at h1 h2 hv
          subst h1 h2 hv hd
          exact ⟨none, hget, rfl, rfl, trivial⟩
        · have hx : ObjOk X.prog X.w H s.heap dd (.xd fs) := I.hok dd _ eH
          obtain ⟨mA, hns, hr⟩ := hx
          obtain ⟨od, ho, hl⟩ := lookIn_ns hns
          exact ⟨some od, hget, hz.1, by unfold PySem.W.notCls; rw [hv] <;> rfl, by rw [hz.2, ed]; exact ho⟩
      obtain ⟨od, J⟩ := J
      exact PySem.W.kia_one (PySem.W.kitx_exc hcl' C.hg C.hk C.hs C.ha C.hn C.ht C.hm) I.kIn J e (fun z => nomatch z) fun tk => ⟨.bl b, H, I.kept (t' := tk) fun _ _ z => z, rfl, q⟩
def aIsX (a : Addr) (xa : AX) (xs : List Str) (y : Str) (fe : AE) : AE := fun δ κ R => xa.cls ∈ xs ∧ fe δ κ fun v κ1 => isEx a v ∧ R (.d (.bool (exKind xa.cls y))) κ1
section
variable {ad : Addr} {cls : Value} {d : Option Addr} {xa : AX} {xs : List Str} {y x : Str} {cv : Value} {c : V} {q : Pos}
theorem ea_isX (hp : Pinned X ad cls d) (hr : ∀ B ρ H, K.Z B ρ H → RepX X.K B xa cls d) (tab : KindOk X.K xs y cv) (hcv : ∀ u, RelV c u → u = cv) (he : PEa K X e t f) (hc : PE X e2 (tC c)) (hg : Gl X "isinstance") (hm : X.mg "isinstance" = none) (hv : bootBuiltins "isinstance" = some (.builtin "isinstance"))
    (hst : starEach [e, e2] X.env = (false, eval e X.env) :: starEach [e2] X.env := by rfl) (hpl : (backTo pos (starEach [e2] X.env)).any (·.1) = false := by rfl) (hst2 : starEach [e2] X.env = (false, eval e2 X.env) :: starEach [] X.env := by rfl) (hK : X.K = K.K := by rfl) :
    PEa K X (.Call (.Name "isinstance" q) [e, e2] [] pos) (tCB (rIsX K.K cls d ad) (tCons t (tCons (tC c) tNil))) (aIsX ad xa xs y f) := by
  rw [← hK]
  refine ⟨pe_callB (call_isX hp) hg hm hv (pa_cons he.pe (pa_cons hc pa_nil (hs := hst2)) (hs := hst)) (by decide) (by decide) hst hpl, fun B ρ δ κ σ H R Q s g hh q => ?_⟩
  obtain ⟨hmem, hh⟩ := hh
  have rx := hr _ _ _ g.z
  obtain ⟨D, ns, EC, kt⟩ := tab _ hmem
  have ec : cls = .ref D := by
    have := rx.1.symm.trans ns
    cases this; rfl
  refine he.sd B ρ δ κ σ H _ _ s g hh fun B1 ρ1 κ1 H1 av vv w1 g1 r1 h1 => ?_
  refine ⟨c, cv, _, D, by rw [isEx_ref h1.1 r1], hcv, ec, EC, ?_, by rw [ec]; exact kt, q _ _ _ _ _ _ w1 g1 (rp_bl _) h1.2⟩
  rcases (hr _ _ _ g1.z).2 with ⟨e0, _⟩ | ⟨dd, ws, ed, eb, rd⟩
  · exact .inl e0
  · exact .inr ⟨dd, ws, ed, g1.ex _ _ eb⟩
/-- a class of the top as a value -/
theorem pe_cls {C : Addr} {p : Pos} (hg : Gl X x) (hm : X.mg x = some (.ref C)) (hdb : (x == ("__debug__" : Str)) = false := by decide) : PE X (.Name x p) (tC (.ref C)) := pe_glob hg hm rfl hdb
end
/-! ### == of what is flat -/
def aEqFB (n : Bool → Bool) : AO := fun a b κ R => match a, b with
  | .d (.int i), .d (.int j) => R (.d (.bool (n (decide (i = j))))) κ
  | .d (.str i), .d (.str j) => R (.d (.bool (n (decide (i = j))))) κ
  | .d (.bool i), .d (.bool j) => R (.d (.bool (n (decide (i = j))))) κ
  | _, _ => False
theorem oa_eqF : OpA K X (compareOp .Eq) rEq (aEqFB id) := by
  refine ⟨op_eq, ?_⟩
  intro B ρ κ H x y a b R Q g rx ry h q
  have h : aEqFB _ a b κ R := h
  unfold aEqFB at h
  split at h
  · cases rx.int; cases ry.int
    refine ⟨rfl, ?_⟩
    rw [dec_inj V.int fun _ _ e => V.int.inj e]
    exact q.at0 g (rp_bl _) h
  · cases rx.str; cases ry.str
    refine ⟨rfl, ?_⟩
    rw [dec_inj V.str fun _ _ e => V.str.inj e]
    exact q.at0 g (rp_bl _) h
  · cases rx.bool; cases ry.bool
    refine ⟨rfl, ?_⟩
    rw [dec_inj V.bl fun _ _ e => V.bl.inj e]
    exact q.at0 g (rp_bl _) h
  · exact h.elim
/-! ### a def that is given the error -/
open L2H in
/-- the error x, at a, as the only argument -/
def spP (K : PySem.W.Frag) (a : Addr) (xa : AX) (cls : Value) (d : Option Addr) : Sp := fun vs H Q E => ∃ B ρ κ, G (Frg.of K) B ρ κ H ∧ RepX K B xa cls d ∧ vs = [.ref a] ∧ ∀ B' ρ' H', Up B ρ H B' ρ' H' → G (Frg.of K) B' ρ' κ H' → Q (.str xa.cls) H'
structure FnP (P : Program) (w : World) (K : PySem.W.Frag) (mg : Str → Option Value) (base : Heap) (k : Nat) (fa : Addr) (fd : FuncData) (ps : List Str) (xs : List Str) : Prop where
  len : ps.length = 1
  run : ∀ (A : Around) (outer : List Env) (s : Shared) (H : Hp) (args : Args) (us : List Value) (vs : List V) (Q : VK) (p : Addr × Obj) (xa : AX) (cls : Value) (d : Option Addr), L2H.RoomH k A → L2H.PinOk outer H s p → Env0 P w K mg base A outer s H → BindsTo s fd args (ps.zip us) → Vals vs us →
    Zc cls d p.2 → (∃ ys, p.2.data = .fields ys) → xa.cls ∈ xs → spP K p.1 xa cls d vs H Q E0 → codeAny (model P w) A (.call (.ref fa) args) (CR CX0 outer P w H s Q E0) s
section
open PyProof.Rows
variable {P : Program} {w : World} {K : PySem.W.Frag} {mg : Str → Option Value} {base : Heap}
theorem fnp_ok {x qual : Str} {st : Stmt} {fa : Addr} {fd : FuncData} {N ps xs : List Str} {l : Nat} {f : Addr → AX → AS} (Fu : Fun K x qual st fa fd) (Sc : FnScope N ps (defScope st)) (h1 : ps.length = 1)
    (hb : ∀ (cdv : Value) (A : Around) (outer : List Env) (s : Shared) (H : Hp) (p : Addr × Obj) (xa : AX) (cls : Value) (d : Option Addr), L2H.RoomH l (A.deeper (envOfC qual (defScope st) s.heap.objs.size fa cdv)) → Zc cls d p.2 → (∃ ys, p.2.data = .fields ys) →
      ∀ (n : Nat) (Z : Hp → List Addr → Hp → Prop) (up : ∀ B ρ H B' ρ' H', UpN n B ρ H B' ρ' H' → Z B ρ H → Z B' ρ' H'), (∀ B ρ H, Z B ρ H → RepX K B xa cls d) → ∃ t, PSsa ⟨K, n, Z, up⟩ (L2H.cxH CX0 P w K mg base N qual (defScope st) fa cdv A outer s H E0 p) (defBody st) t (f p.1 xa))
    (hF : ∀ a xa κ R, xa.cls ∈ xs → R (.d (.str xa.cls)) κ → f a xa (endsA K κ.length R) (startA N [.r (.ref a)]) κ) : FnP P w K mg base (l + 1) fa fd ps xs := by
  obtain ⟨oc, od, kV, doc, pm, an, cdv, ct, osl, rfl, lk, hcd⟩ := Fu.ex
  refine ⟨h1, fun A outer s H args us vs Q p xa cls d hr hpin e0 hbs r hz hd hm hsp => ?_⟩
  obtain ⟨B, ρ, κ, g, rx, ev, q⟩ := hsp
  subst ev
  have hl : ([V.ref p.1] : List V).length = ps.length := by rw [h1]; rfl
  have inK : K.In s.heap := e0.mod.kin.keeps fun b ob z => (e0.bs b ob z).1
  have nolim : s.heap.NoLimit := e0.mod.nolimit.keeps fun b ob z => (e0.bs b ob z).1
  refine codeAny_call_function hr.depth (inK _ _ lk) rfl Sc.co Sc.gen rfl (PySem.W.codeRec_of inK hcd) (hbs _ _ _ _ ?_)
  refine wpAny_newFunctionEnv_cells Sc.kind (fun ⟨n, v⟩ hy => (Sc.par n (List.of_mem_zip hy).1).imp id fun z => ⟨z, PySem.W.cellsFrom_some _ _ _ (.inl z)⟩) fun env he s1 x1 => ?_
  subst he
  refine ⟨nolim.keeps x1.toInCall.keep, codeAny_func ?_⟩
  obtain ⟨t, ht⟩ := hb cdv A outer s H p xa cls d (hr.deeper _) hz hd κ.length (fun B' ρ' H' => UpN κ.length B ρ H B' ρ' H' ∧ RepX K B' xa cls d) (fun _ _ _ _ _ _ w z => ⟨z.1.trans w, z.2.up w.s⟩) (fun _ _ _ z => z.2)
  have I1 := L2H.inv_startH (CX := CX0) (P := P) (w := w) (K := K) (mg := mg) (base := base) (E := E0) Sc hpin e0 hl r x1
  have gz : G ⟨K, κ.length, fun B' ρ' H' => UpN κ.length B ρ H B' ρ' H' ∧ RepX K B' xa cls d, fun _ _ _ _ _ _ w z => ⟨z.1.trans w, z.2.up w.s⟩⟩ B ρ κ H := ⟨g.ex, g.len, g.inj, g.at', UpN.refl, rx⟩
  have fin : ∀ B' ρ' κ' H' a v, UpN κ.length B ρ H B' ρ' H' → G (Frg.of K) B' ρ' κ' H' → Rep K B' ρ' a v → (∃ a' κ2, GhR K κ.length a κ' a' κ2 ∧ (a' = .d (.str xa.cls) ∧ κ2 = κ)) → Q v H' := fun B' ρ' κ' H' a v w g' ra ⟨a', κ2, gh, e1, e2⟩ => by
    subst e1 e2
    obtain ⟨B2, ρ2, w2, r2, g2⟩ := gh.2 B' ρ' H' v g' ra
    cases r2.str
    exact q _ _ _ ((w.trans w2).full (by rw [g.len]; exact Nat.le_refl _)) g2
  have run := ht.sd B ρ (startA N [.r (.ref p.1)]) κ (L2.start N [.ref p.1]) H (endsA K κ.length fun a κ2 => a = .d (.str xa.cls) ∧ κ2 = κ) { nx := fun _ H' => Q .non H', rt := Q } (s_start (.cons rfl .nil)) gz (Nat.le_refl _) (hF _ _ _ _ hm ⟨rfl, rfl⟩)
    ⟨fun B' ρ' κ' H' δ' σ' w g' s' l h' => fin _ _ _ _ _ _ w g'.plain rp_non h', fun B' ρ' κ' H' a v w g' ra l h' => fin _ _ _ _ _ _ w g'.plain ra h', fun _ _ _ _ _ _ _ _ _ _ h' => h'.elim, fun _ _ _ _ _ _ _ _ _ _ h' => h'.elim, Nat.le_refl _⟩
  refine wpAny_mono (ht.ps.run [] s1 _ H _ I1 run) (fun fl s' hs => ?_) fun _ _ z => z
  cases fl with
  | ret u =>
    obtain ⟨v, _, H', J, rv, qv⟩ := hs
    exact ⟨v, H', J.os, J.bare, J.base, J.hok, rv, qv⟩
  | next =>
    obtain ⟨_, H', J, qv⟩ := hs
    exact ⟨V.non, H', J.os, J.bare, J.base, J.hok, rfl, qv⟩
  | brk =>
    obtain ⟨_, _, _, z⟩ := hs
    exact z.elim
  | cont =>
    obtain ⟨_, _, _, z⟩ := hs
    exact z.elim
end
/-! f(e) in the suite -/
def aCallP (a : Addr) (xa : AX) (xs : List Str) (fe : AE) : AE := fun δ κ R => xa.cls ∈ xs ∧ fe δ κ fun v κ1 => isEx a v ∧ R (.d (.str xa.cls)) κ1
section
variable {ad : Addr} {cls : Value} {d : Option Addr} {oe : Obj} {pn : List (Addr × Obj)} {xa : AX} {xs : List Str} {x : Str} {q : Pos} {l : Nat} {fa : Addr} {fd : FuncData} {ps : List Str}
theorem ea_callP (hz : Zc cls d oe) (hd : ∃ vs, oe.data = .fields vs) (hrx : ∀ B ρ H, K.Z B ρ H → RepX X.K B xa cls d) (Fo : FnP X.prog X.w X.K X.mg X.base l fa fd ps xs) (hr : Room l X.A)
    (hg : Gl X x) (hm : X.mg x = some (.ref fa)) (hk : PySem.W.keepIn X.K (.ref fa) = true) (hb : Binds X.K fd ps []) (he : PEa K (X.suite ad ((ad, oe) :: pn)) e t f) (hdb : (x == ("__debug__" : Str)) = false := by decide)
    (hst : starEach [e] (X.suite ad ((ad, oe) :: pn)).env = (false, eval e (X.suite ad ((ad, oe) :: pn)).env) :: starEach [] (X.suite ad ((ad, oe) :: pn)).env := by rfl) (hpl : (backTo pos (starEach [] (X.suite ad ((ad, oe) :: pn)).env)).any (·.1) = false := by rfl) (hK : X.K = K.K := by rfl) :
    PEa K (X.suite ad ((ad, oe) :: pn)) (.Call (.Name x q) [e] [] pos) (fun σ H Q => ∃ xa : AX, xa.cls ∈ xs ∧ tCons t tNil σ H fun vs H1 => spP X.K ad xa cls d vs H1 Q E0) (aCallP ad xa xs f) := by
  refine ⟨⟨fun pins s σ H Q I ⟨xa, hmem, h⟩ => ?_⟩, fun B ρ δ κ σ H R Q s g hh q => ?_⟩
  · refine wpAny_Call_Name_kw (ld_glob I hg hm ?_ hdb)
    refine PySem.W.callWith_K (h₀ := X.base) I.ok.mod.kin hk (thn ((pa_cons he.pe pa_nil (hs := hst)).run pos pins s σ H _ I h) fun us s1 ⟨vs, H1, I1, r1, q1⟩ => ⟨I1.kIn, ?_⟩) hst hpl
    have lu : us.length = ps.length := by
      rw [← r1.length, Fo.len]
      obtain ⟨_, _, _, _, _, ev, _⟩ := q1
      rw [ev]; rfl
    have b2 := hb s1 us I1.kIn (by rw [List.append_nil]; exact lu)
    rw [List.append_nil] at b2
    have P1 := I1.pin (ad, oe) (List.mem_append_left _ List.mem_cons_self)
    refine wpAny_call (codeAny_mono (Fo.run (X.A.mark (some (.ref ad))) X.stack s1 H1 ⟨us, []⟩ us vs Q (ad, oe) xa cls d (L2H.roomH_of hr |> fun z => ⟨z.dp, z.un⟩) ⟨P1.1, P1.2.1, fun hm => (List.mem_cons.mp (I1.stkSub ad hm)).elim P1.2.2.1 P1.2.2.2.1, P1.2.2.2.2⟩ I1.env0 b2 r1 hz hd hmem q1) fun rr s' hq => ?_)
    cases rr with
    | error _ => exact False.elim hq
    | ok fl =>
      cases fl with
      | ret u => exact I1.after hq
      | next => exact False.elim hq
      | brk => exact False.elim hq
      | cont => exact False.elim hq
  · obtain ⟨hmem, hh⟩ := hh
    refine ⟨xa, hmem, he.sd B ρ δ κ σ H _ _ s g hh fun B1 ρ1 κ1 H1 av vv w1 g1 r1 h1 => ?_⟩
    refine ⟨B1, ρ1, κ1, by rw [hK]; exact g1.plain, hrx _ _ _ g1.z, by rw [isEx_ref h1.1 r1], fun B' ρ' H' w2 g2 => q _ _ _ _ _ _ (w1.trans w2) (G.zone (by rw [hK] at g2; exact g2) (K.up _ _ _ _ _ _ w2.n g1.z)) (rp_str _) h1.2⟩
end
end Ab
namespace Ab
open PySem L2
variable {K : Frg} {X : Cx} {W : WX}
theorem takes_none : Takes X (fun _ _ _ _ => False) := fun u s' ⟨_, _, _, _, _, _, _, _, _, _, _, _, _, _, _, _, w⟩ => w.elim
theorem hx_none : HX K (fun _ _ => False) W := fun _ _ _ _ _ _ _ _ h => h.elim
/-! ### what the top says of errors -/
section
variable {K : PySem.W.Frag} {nm x y fld : Str} {C D fI : Addr} {xs : List Str} {cv : Value} {b : Bool}
structure ErrC (K : PySem.W.Frag) (nm : Str) (C : Addr) : Prop where
  ns : PySem.W.nsIn K mainGlobals nm = some (some (.ref C))
  ox : OexC K C
  xc : ExcC K C
  slf : PySem.W.subIn K (.ref C) (.ref C) = some true
theorem ErrC.f (h : ErrC K nm C) : ExF K nm C := ⟨h.ns, h.ox⟩
theorem errC_of {n0 qn : Str} {N : Addr} {bs bm : List Value} {sn : List Str} {sb : List Value} {ab : Bool} {col : Option Bool} {dd : Option Addr} {k0 k1 k2 k3 k5 : Option Value} (h1 : PySem.W.nsIn K mainGlobals nm = some (some (.ref C)))
    (h2 : K.lookup C = some (excClassObj n0 qn C N bs bm true sn sb ab col dd k0 k1 k2 k3 k5 "ValueError.__new__")) (h3 : PySem.HandSPX.refsVE bm = true) (h4 : PySem.W.findIn K (.ref C) "__setattr__" = some (some (.builtin "object.__setattr__")))
    (h5 : PySem.W.subIn K (.ref C) (.type "BaseException") = some true) (h6 : PySem.W.typeIn K (.ref C) = some (.type "type")) (h7 : PySem.W.keepIn K (.ref C) = true) (h8 : PySem.W.findIn K (.ref C) "__getattribute__" = some (some (.builtin "BaseException.__getattribute__")))
    (h9 : PySem.W.findIn K (.ref C) "__getattr__" = some none) (h10 : PySem.W.hasDictIn K C = true) (h11 : PySem.W.findIn K (.ref C) "__class__" = some (some (.builtin "object.__class__"))) (h12 : PySem.W.specialIn K (.builtin "object.__class__") "__get__" = some (some (.builtin "getset_descriptor.__get__")))
    (h13 : PySem.W.takesIn K (.builtin "object.__class__") = some true) (h14 : PySem.W.mroIn K C (.type "object") = some true) (h15 : PySem.W.subIn K (.ref C) (.ref C) = some true) : ErrC K nm C :=
  ⟨h1, ⟨⟨_, _, _, _, _, _, _, _, _, _, _, _, _, _, _, h2, h3⟩, h4, h5, h6, h7⟩, ⟨h8, h9, h5, h10, h11, h12, h13, h14⟩, h15⟩
/-- a class that is asked for -/
structure TgtC (K : PySem.W.Frag) (C : Addr) : Prop where
  ty : PySem.W.typeIn K (.ref C) = some (.type "type")
  hd : PySem.W.hasDictIn K C = true
  bx : PySem.W.subIn K (.ref C) (.type "BaseException") = some true
theorem exm_of (T : TgtC K C) (h : PySem.W.subIn K (.ref D) (.ref C) = some b) : PySem.W.exmOne K (.ref D) (.ref C) = some b := PySem.W.exm_ref T.bx T.hd T.ty h
theorem kit_of (E : ErrC K nm D) (T : TgtC K C) (h : PySem.W.subIn K (.ref D) (.ref C) = some b) : PySem.W.kitOne K (.ref D) (.ref C) = some b := by
  obtain ⟨cd, hc, _⟩ := PySem.W.any_some T.hd
  unfold PySem.W.kitOne
  by_cases e : D = C
  · subst e
    rw [E.slf] at h
    cases h
    rw [if_pos (beq_self_eq_true _)]
  · rw [if_neg (show ¬ (Value.ref D == Value.ref C) = true from fun z => e (Value.ref.inj (beq_iff_eq.mp z)))]
    show (if ((PySem.W.clsIn K C).isSome && PySem.W.typeIn K (.ref C) == some (.type "type")) = true then PySem.W.subIn K (.ref D) (.ref C) else none) = _
    rw [if_pos (by rw [hc, T.ty]; rfl)]
    exact h
theorem kit_VE (h : PySem.W.subIn K (.ref D) (.type "ValueError") = some true) : PySem.W.kitOne K (.ref D) (.type "ValueError") = some true := by
  unfold PySem.W.kitOne
  rw [if_neg (show ¬ (Value.ref D == Value.type "ValueError") = true from fun z => Value.noConfusion (beq_iff_eq.mp z))]
  show (if PySem.W.kitMeta "ValueError" = true then _ else none) = _
  rw [if_pos (by decide +kernel)]
  exact h
theorem KindOk.nil : KindOk K [] y cv := fun x h => absurd h (List.not_mem_nil)
theorem KindOk.cons (E : ErrC K x D) (h : PySem.W.kitOne K (.ref D) cv = some b) (hb : exKind x y = b) (t : KindOk K xs y cv) : KindOk K (x :: xs) y cv := fun z hz => by
  rcases List.mem_cons.mp hz with e | hz
  · subst e; exact ⟨D, E.ns, E.xc, by rw [hb]; exact h⟩
  · exact t z hz
theorem FldOk.nil : FldOk K [] fld := fun x h => absurd h (List.not_mem_nil)
theorem FldOk.cons (E : ErrC K x D) (h : PySem.W.findIn K (.ref D) fld = some none) (t : FldOk K xs fld) : FldOk K (x :: xs) fld := fun z hz => by
  rcases List.mem_cons.mp hz with e | hz
  · subst e; exact ⟨D, E.ns, ⟨E.xc.hg, E.xc.hk, E.xc.hs, E.xc.hd⟩, h⟩
  · exact t z hz
/-- which errors a clause takes -/
def exmOf (xs : List Str) (y : Str) : Str → Option Bool := fun x => if x ∈ xs then some (exKind x y) else none
def ExmOk (K : PySem.W.Frag) (xs : List Str) (y : Str) (cv : Value) : Prop := ∀ x ∈ xs, ∃ D, PySem.W.nsIn K mainGlobals x = some (some (.ref D)) ∧ PySem.W.exmOne K (.ref D) cv = some (exKind x y)
theorem ExmOk.nil : ExmOk K [] y cv := fun x h => absurd h (List.not_mem_nil)
theorem ExmOk.cons (E : ErrC K x D) (h : PySem.W.exmOne K (.ref D) cv = some b) (hb : exKind x y = b) (t : ExmOk K xs y cv) : ExmOk K (x :: xs) y cv := fun z hz => by
  rcases List.mem_cons.mp hz with e | hz
  · subst e; exact ⟨D, E.ns, by rw [hb]; exact h⟩
  · exact t z hz
theorem ExmOk.m (h : ExmOk K xs y cv) : ∀ nm cls b, exmOf xs y nm = some b → PySem.W.nsIn K mainGlobals nm = some (some cls) → PySem.W.exmOne K cls cv = some b := fun nm cls b e n => by
  unfold exmOf at e
  split at e
  · rename_i hm
    obtain ⟨D, n2, r⟩ := h nm hm
    rw [n] at n2
    cases n2
    rw [← Option.some.inj e]
    exact r
  · cases e
end
end Ab
set_option Elab.async false
set_option linter.all false
set_option maxRecDepth 100000
set_option maxHeartbeats 4000000
/-! Ab20: max of two numbers -/
namespace Ab
open PySem L2
variable {K : Frg} {X : Cx}
def aMax2 : List AV → AK → AR → Prop := fun as κ R => match as with
  | [.d (.int i), .d (.int j)] => R (.d (.int (if i < j then j else i))) κ
  | _ => False
theorem ca_max (hc : X.calm = true) : CallA K X (.builtin "max") (fun xs H Q => ∃ i j, xs = [.int i, .int j] ∧ Q (.int (if i < j then j else i)) H) aMax2 := ⟨call_max2 hc, fun B ρ κ H xs as R Q g rs h q => by
  unfold aMax2 at h
  split at h
  · obtain ⟨x, y, rfl, r1, r2⟩ := reps2 rs
    exact ⟨_, _, by rw [r1.int, r2.int], q.at0 g (rp_int _) h⟩
  · exact h.elim⟩
end Ab
set_option Elab.async false
set_option linter.all false
set_option maxRecDepth 100000
set_option maxHeartbeats 4000000
/-! Ab21: a short list many times -/
namespace Ab
open PySem L2
variable {K : Frg} {B B' B2 H H' H2 : Hp} {ρ ρ' ρ2 : List Addr} {κ κ' : AK} {δ : AD} {σ : L2.St} {p : Addr} {k : Nat} {v x y z : V} {a b c : AV}
variable {X : Cx} {e e2 : Expr} {t u : TE} {f f2 : AE} {pos : Pos}
def rMulN (K : PySem.W.Frag) : R2 := fun x y H Q => ∃ a xs n, x = V.ref a ∧ y = V.int n ∧ SqL K H a xs ∧ (0 ≤ n ∧ n ≤ 1000 ∧ xs.length ≤ 1000) ∧ ∀ p, H p = none → Q (.ref p) (upd H p (.lst (List.replicate n.toNat xs).flatten))
theorem op_mulN : OpR X (binaryOp .Mult) (rMulN X.K) := by
  intro pins s σ H x y v u Q I rx ry h
  obtain ⟨a, xs, n, rfl, rfl, hs, ⟨hn0, hn1, hxl⟩, q⟩ := h
  obtain rfl : v = Value.ref a := rx
  obtain ⟨tk, rfl⟩ := ry
  obtain ⟨its, rv, ⟨⟨cls, dd, data, sl⟩, m, ho, hc, hdn, hd⟩, hlen⟩ := I.list hs
  have hc1 : cls = Value.type "list" := hc
  have hd1 : data = Data.seq its.toArray m := hd
  subst hc1 hd1
  have hil : its.length ≤ 1000 := by rw [← rv.length]; exact hxl
  have hsl := sizeLine_eq
  have hk : n.toNat ≤ 1000 := by omega
  have hm : its.toArray.size * n.toNat ≤ 1000000 := by
    rw [List.size_toArray]
    exact Nat.mul_le_mul hil hk
  refine wpAny_binaryOp_repeat_ref (T := "list") (U := "int") (by decide) ⟨_, ho, rfl⟩ (fun s' => typeIs_int s' n tk) noFill_list_mul PySem.F.fills_int_mul PySem.F.slot_int_rmul repeat_list PySem.F.slot_int_index.lookup
    (call_meets PySem.F.slot_int_rmul (typeIs_int s n tk) PySem.F.entry_int_rmul (PySem.F.args_int_rmul_2 _ _) (q_rmul_int n tk a its.toArray m dd sl)
      ⟨ho, rfl, ⟨_, ho, rfl⟩, call_meets PySem.F.slot_list_mul ⟨_, ho, rfl⟩ PySem.F.entry_list_mul (PySem.F.args_list_mul_2 _ _)
        (q_mul_int a its.toArray m dd sl n tk ?_ (by omega) (by simp only [Builtin.List.listTooLong, decide_eq_true_eq]; omega))
        ⟨ho, ?_⟩⟩)
  · have : Builtin.List.listFitsIndex n = true := by
      simp only [Builtin.List.listFitsIndex, Bool.and_eq_true, decide_eq_true_eq]
      omega
    rw [this]; decide
  have e : List.foldl (fun x1 x2 => x1 ++ x2) #[] (List.replicate (if its.toArray.isEmpty = true then 0 else n.toNat) its.toArray) = (List.replicate n.toNat its).flatten.toArray := by
    rw [PyProof.Rows.listMul_foldl_if]
  rw [e]
  refine ⟨.ref _, _, I.lnew (t' := s.toks) (rv.rep n.toNat) ?_, rfl, q _ I.fresh⟩
  rw [PyProof.Rows.lm_len_rep_flat]
  have : n.toNat * xs.length ≤ 1000 * 1000 := Nat.mul_le_mul hk hxl
  omega
/-- a short list of data, n times -/
def aMulN : AO := fun a b κ R => match a, b with
  | .d (.list xs), .d (.int n) => (0 ≤ n ∧ n ≤ 1000 ∧ xs.length ≤ 1000) ∧ R (.d (.list (List.replicate n.toNat xs).flatten)) κ
  | _, _ => False
theorem oa_mulN (hK : X.K = K := by rfl) : OpA K X (binaryOp .Mult) (rMulN K) aMulN := by
  obtain ⟨K, Kn, KZ, Ku⟩ := K
  change X.K = K at hK
  subst hK
  refine ⟨op_mulN, ?_⟩
  intro B ρ κ H x y a b R Q g rx ry h q
  unfold aMulN at h
  split at h
  · rename_i xs n
    obtain ⟨⟨h0, h1, h2⟩, h⟩ := h
    obtain ⟨p, vs, rfl, s1, d1⟩ := of_listG g rx
    refine ⟨p, vs, n, rfl, ry.int, s1, ⟨h0, h1, ?_⟩, fun l hl => ?_⟩
    · rw [dpa_len d1]; exact h2
    · obtain ⟨u4, g4, r4⟩ := new_lst g hl (dpa_rep d1 n.toNat)
      exact q _ _ _ _ _ _ u4 g4 r4 h
  · exact h.elim
end Ab
set_option Elab.async false
set_option linter.all false
set_option maxRecDepth 100000
set_option maxHeartbeats 4000000
/-! Ab22: l.extend of a tuple or list of data; in, not in, of a list of data of any depth -/
namespace Ab
open PySem L2
variable {K : Frg} {B B' B2 H H' H2 : Hp} {ρ ρ' ρ2 : List Addr} {κ κ' : AK} {δ : AD} {σ : L2.St} {p : Addr} {k : Nat} {v x y z : V} {a b c : AV}
variable {X : Cx} {e e2 : Expr} {t u : TE} {f f2 : AE} {pos : Pos}
theorem q_ext_tup (l : Addr) (items : Array Value) (n : Nat) (b : Addr) (items2 : Array Value) (n2 : Nat) (d2 : Option Addr) (sl2 : Array (Option Value)) (hs0 : ¬(!items.isEmpty && Builtin.List.listTooLong (items.size + items2.size)) = true) (hs1 : items.size ≤ sizeLine) (hs2 : items.size + items2.size ≤ sizeLine + 1) :
    Meets (Builtin.«list.extend» ⟨[.ref l, .ref b], []⟩) (fun _ R s => s.heap.get? l = some { cls := .type "list", dict := none, data := .seq items n, slots := #[] } ∧ s.heap.get? b = some { cls := .type "tuple", dict := d2, data := .seq items2 n2, slots := sl2 } ∧ R (.ok (.ret Value.none)) { s with heap := s.heap.update l (Obj.mapSeq fun x => x ++ items2), toks := s.toks }) :=
  .of_wp fun prog w A R s h => by
    obtain ⟨hp, g, d, tk, os⟩ := s; obtain ⟨hl, hb, h⟩ := h; have f1 := AutoSeq1.idx_int; have f2 := AutoSeq1.sub_tuple_tuple; have f3 := AutoSeq1.sub_list_list; have f4 := AutoSeq1.sub_tuple_list; have f5 := AutoSeq1.sub_list_tuple;
    have hz' : (items ++ items2).size ≤ sizeLine + 1 := by rw [Array.size_append]; exact hs2
    wp_walk using (wpAny_updateSeq hl rfl (hz := hs1) (_hz' := hz')), AutoSeq1.wpAny_loadPart' hl, AutoSeq1.wpAny_loadPart' hb; exact ⟨_, rfl, h⟩
theorem q_ext_lst (l : Addr) (items : Array Value) (n : Nat) (b : Addr) (items2 : Array Value) (n2 : Nat) (d2 : Option Addr) (sl2 : Array (Option Value)) (hs0 : ¬(!items.isEmpty && Builtin.List.listTooLong (items.size + items2.size)) = true) (hs1 : items.size ≤ sizeLine) (hs2 : items.size + items2.size ≤ sizeLine + 1) :
    Meets (Builtin.«list.extend» ⟨[.ref l, .ref b], []⟩) (fun _ R s => s.heap.get? l = some { cls := .type "list", dict := none, data := .seq items n, slots := #[] } ∧ s.heap.get? b = some { cls := .type "list", dict := d2, data := .seq items2 n2, slots := sl2 } ∧ R (.ok (.ret Value.none)) { s with heap := s.heap.update l (Obj.mapSeq fun x => x ++ items2), toks := s.toks }) :=
  .of_wp fun prog w A R s h => by
    obtain ⟨hp, g, d, tk, os⟩ := s; obtain ⟨hl, hb, h⟩ := h; have f1 := AutoSeq1.idx_int; have f2 := AutoSeq1.sub_tuple_tuple; have f3 := AutoSeq1.sub_list_list; have f4 := AutoSeq1.sub_tuple_list; have f5 := AutoSeq1.sub_list_tuple;
    have hz' : (items ++ items2).size ≤ sizeLine + 1 := by rw [Array.size_append]; exact hs2
    wp_walk using (wpAny_updateSeq hl rfl (hz := hs1) (_hz' := hz')), AutoSeq1.wpAny_loadPart' hl, AutoSeq1.wpAny_loadPart' hb; exact ⟨_, rfl, h⟩
def rExt (K : PySem.W.Frag) : V → List V → Hp → VK → Prop := fun x vs H Q => ∃ l b xs zs, x = .ref l ∧ vs = [.ref b] ∧ H l = some (.lst xs) ∧ (SqT K H b zs ∨ SqL K H b zs) ∧ xs.length + zs.length ≤ sizeLine ∧ Q .non (upd H l (.lst (xs ++ zs)))
theorem mt_ext : MtM X "list.extend" (rExt X.K) := by
  intro pins s σ H x vs v us Q I rx rv h
  obtain ⟨l, b, xs, zs, rfl, rfl, hH, hB, hz, q⟩ := h
  cases rx
  obtain ⟨u, rfl, ru⟩ := rv.one
  cases ru
  obtain ⟨z, its, n, r, hl, e⟩ := I.lstM hH
  rcases hB with hB | hB
  · obtain ⟨its2, r2, ⟨⟨cls, dd, data, sl⟩, ho, hc, m, hd⟩, hlen⟩ := I.tuple hB
    have hc1 : cls = Value.type "tuple" := hc
    have hd1 : data = Data.seq its2.toArray m := hd
    subst hc1 hd1
    have hl2 := r2.length
    have hsz : its.toArray.size + its2.toArray.size ≤ sizeLine := by rw [List.size_toArray, List.size_toArray]; omega
    have hlong : ¬ (!its.toArray.isEmpty && Builtin.List.listTooLong (its.toArray.size + its2.toArray.size)) = true := by
      rw [notLongL hsz, Bool.and_false]
      exact Bool.false_ne_true
    refine call_meets PySem.F.slot_list_extend ⟨_, e, rfl⟩ PySem.F.entry_list_extend (PySem.F.args_list_extend_2 _ _)
      (q_ext_tup l its.toArray n b its2.toArray m dd sl hlong (by rw [List.size_toArray]; omega) (by omega)) ⟨e, ho, ?_⟩
    refine ⟨.non, _, I.lset (its' := its ++ its2) hH e (by simp) (r.append r2) ?_, rfl, q⟩
    rw [List.length_append]
    omega
  · obtain ⟨its2, r2, ⟨⟨cls, dd, data, sl⟩, m, ho, hc, hdn, hd⟩, hlen⟩ := I.list hB
    have hc1 : cls = Value.type "list" := hc
    have hd1 : data = Data.seq its2.toArray m := hd
    subst hc1 hd1
    have hl2 := r2.length
    have hsz : its.toArray.size + its2.toArray.size ≤ sizeLine := by rw [List.size_toArray, List.size_toArray]; omega
    have hlong : ¬ (!its.toArray.isEmpty && Builtin.List.listTooLong (its.toArray.size + its2.toArray.size)) = true := by
      rw [notLongL hsz, Bool.and_false]
      exact Bool.false_ne_true
    refine call_meets PySem.F.slot_list_extend ⟨_, e, rfl⟩ PySem.F.entry_list_extend (PySem.F.args_list_extend_2 _ _)
      (q_ext_lst l its.toArray n b its2.toArray m dd sl hlong (by rw [List.size_toArray]; omega) (by omega)) ⟨e, ho, ?_⟩
    refine ⟨.non, _, I.lset (its' := its ++ its2) hH e (by simp) (r.append r2) ?_, rfl, q⟩
    rw [List.length_append]
    omega
def aExtend : AV → List AV → AK → AR → Prop := fun a as κ R => match a, as with
  | .c k, [.d (.tuple zs)] => ∃ xs, κ[k]? = some (.ld xs) ∧ xs.length + zs.length ≤ sizeLine ∧ R (.d .none) (κ.set k (.ld (xs ++ zs)))
  | .c k, [.d (.list zs)] => ∃ xs, κ[k]? = some (.ld xs) ∧ xs.length + zs.length ≤ sizeLine ∧ R (.d .none) (κ.set k (.ld (xs ++ zs)))
  | _, _ => False
theorem ma_extend (hK : X.K = K := by rfl) : MtA K X "list.extend" (rExt K) aExtend := by
  obtain ⟨K, Kn, KZ, Ku⟩ := K
  change X.K = K at hK
  subst hK
  refine ⟨mt_ext, fun B ρ κ H x xs a as R Q g rx rs h q => ?_⟩
  unfold aExtend at h
  split at h
  · obtain ⟨xs, ek, hl, h⟩ := h
    obtain ⟨p, hp, rfl⟩ := rx
    obtain ⟨y, rfl, ry⟩ := reps1 rs
    obtain ⟨vs, r, eH, wr⟩ := g.ldAt hp ek
    obtain ⟨p2, ws, rfl, s2, d2⟩ := of_tupG g ry
    obtain ⟨u2, g2⟩ := wr _ _ (dpa_app r d2)
    refine ⟨p, p2, vs, ws, rfl, rfl, eH, .inl s2, by rw [dpa_len r, dpa_len d2]; exact hl, q _ _ _ _ _ _ u2 g2 rp_non h⟩
  · obtain ⟨xs, ek, hl, h⟩ := h
    obtain ⟨p, hp, rfl⟩ := rx
    obtain ⟨y, rfl, ry⟩ := reps1 rs
    obtain ⟨vs, r, eH, wr⟩ := g.ldAt hp ek
    obtain ⟨p2, ws, rfl, s2, d2⟩ := of_listG g ry
    obtain ⟨u2, g2⟩ := wr _ _ (dpa_app r d2)
    refine ⟨p, p2, vs, ws, rfl, rfl, eH, .inr s2, by rw [dpa_len r, dpa_len d2]; exact hl, q _ _ _ _ _ _ u2 g2 rp_non h⟩
  · exact h.elim
/-! ### in, of any depth -/
def aInP (n : Bool → Bool) : AO := fun a b κ R => match a, b with
  | .d x, .d (.list ys) => SeqAt.shaped x = true ∧ SeqAt.shaped (.list ys) = true ∧ R (.d (.bool (n (ys.any fun z => PyData.eqv z x)))) κ
  | .d x, .c k => ∃ ys, κ[k]? = some (.ld ys) ∧ SeqAt.shaped x = true ∧ SeqAt.shaped (.list ys) = true ∧ R (.d (.bool (n (ys.any fun z => PyData.eqv z x)))) κ
  | _, _ => False
theorem inP_dp (g : G K B ρ κ H) {x y : V} {a b : AV} {n : Bool → Bool} {R : AR} (rx : Rep K B ρ a x) (ry : Rep K B ρ b y) (h : aInP n a b κ R) : ∃ d ds, Dp K H x d ∧ Dp K H y (.list ds) ∧ SeqAt.shaped d = true ∧ SeqAt.shaped (.list ds) = true ∧ R (.d (.bool (n (ds.any fun z => PyData.eqv z d)))) κ := by
  unfold aInP at h
  split at h
  · rename_i d ds
    exact ⟨d, ds, dp_G g rx, dp_G g ry, h.1, h.2.1, h.2.2⟩
  · rename_i d k
    obtain ⟨ys, ek, h1, h2, h3⟩ := h
    obtain ⟨p, hp, rfl⟩ := ry
    obtain ⟨p', hp', _, vs, d1, eH⟩ := g.cell ek
    rw [hp] at hp'; cases hp'
    exact ⟨d, ys, dp_G g rx, .lst (.inl (.inl eH)) (dpa_up g.ex _ _ d1), h1, h2, h3⟩
  · exact h.elim
theorem oa_inP {l : Nat} (hr : Room l X.A) (hK : X.K = K := by rfl) : OpA K X (compareOp .In) (rInD K) (aInP id) := by
  obtain ⟨K, Kn, KZ, Ku⟩ := K
  change X.K = K at hK
  subst hK
  refine ⟨op_inD (by have := hr.un; omega), ?_⟩
  intro B ρ κ H x y a b R Q g rx ry h q
  obtain ⟨d, ds, h1, h2, h3, h4, h5⟩ := inP_dp g rx ry h
  exact ⟨d, ds, h1, h2, h3, h4, q.at0 g (rp_bl _) h5⟩
theorem oa_notinP {l : Nat} (hr : Room l X.A) (hK : X.K = K := by rfl) : OpA K X (compareOp .NotIn) (rNotInD K) (aInP not) := by
  obtain ⟨K, Kn, KZ, Ku⟩ := K
  change X.K = K at hK
  subst hK
  refine ⟨op_notInD (by have := hr.un; omega), ?_⟩
  intro B ρ κ H x y a b R Q g rx ry h q
  obtain ⟨d, ds, h1, h2, h3, h4, h5⟩ := inP_dp g rx ry h
  exact ⟨d, ds, h1, h2, h3, h4, q.at0 g (rp_bl _) h5⟩
end Ab
set_option Elab.async false
set_option linter.all false
set_option maxRecDepth 100000
set_option maxHeartbeats 4000000
/-! Ab23: dicts of any things (cell dA) -/
namespace Ab
open PySem L2
variable {K : Frg} {B B' B2 H H' H2 : Hp} {ρ ρ' ρ2 : List Addr} {κ κ' : AK} {δ : AD} {σ : L2.St} {p : Addr} {k : Nat} {v x y z : V} {a b c : AV} {X : Cx} {e e2 : Expr} {t u : TE} {f f2 : AE} {pos : Pos}
def valA (kvs : List (L2.Key × AV)) (k : L2.Key) : Option AV := (kvs.find? fun kv => decide (kv.1 = k)).map (·.2)
def putAv (kvs : List (L2.Key × AV)) (k : L2.Key) (v : AV) : List (L2.Key × AV) :=
  if (kvs.any fun kv => decide (kv.1 = k)) = true then kvs.map (fun kv => if kv.1 = k then (kv.1, v) else kv) else kvs ++ [(k, v)]
def mergeA (kvs more : List (L2.Key × AV)) : List (L2.Key × AV) := more.foldl (fun acc kv => putAv acc kv.1 kv.2) kvs
theorem valA_pos {k k' : L2.Key} {d : AV} {r : List (L2.Key × AV)} (h : k' = k) : valA ((k', d) :: r) k = some d := by simp [valA, List.find?_cons, h]
theorem valA_neg {k k' : L2.Key} {d : AV} {r : List (L2.Key × AV)} (h : k' ≠ k) : valA ((k', d) :: r) k = valA r k := by simp [valA, List.find?_cons, h]
theorem repka_val {kvs : List (L2.Key × AV)} {ws : List (L2.Key × V)} {k : L2.Key} {d : AV} (h : RepKs K B ρ kvs ws) : valA kvs k = some d → ∃ v, valV ws k = some v ∧ Rep K B ρ d v := by
  unfold RepKs at h
  induction h with
  | nil => intro e; cases e
  | @cons p q ps qs h1 h2 ih =>
    obtain ⟨k1, d1⟩ := p
    obtain ⟨k2, v2⟩ := q
    obtain ⟨e, r⟩ := h1
    have e : k1 = k2 := e
    subst e
    intro hd
    by_cases hk : k1 = k
    · rw [valA_pos hk] at hd
      cases hd
      exact ⟨v2, valV_pos hk, r⟩
    · rw [valA_neg hk] at hd
      obtain ⟨v, h3, h4⟩ := ih hd
      exact ⟨v, by rw [valV_neg (p := (k1, v2)) hk]; exact h3, h4⟩
theorem repka_any {kvs : List (L2.Key × AV)} {ws : List (L2.Key × V)} {k : L2.Key} (h : RepKs K B ρ kvs ws) : (kvs.any fun kv => decide (kv.1 = k)) = ws.any fun kv => decide (kv.1 = k) := by
  unfold RepKs at h
  induction h with
  | nil => rfl
  | @cons p q ps qs h1 h2 ih => rw [List.any_cons, List.any_cons, ih, h1.1]
theorem repka_app {kvs kvs2 : List (L2.Key × AV)} {ws ws2 : List (L2.Key × V)} (h : RepKs K B ρ kvs ws) (h2 : RepKs K B ρ kvs2 ws2) : RepKs K B ρ (kvs ++ kvs2) (ws ++ ws2) := by
  unfold RepKs at h
  induction h with
  | nil => exact h2
  | cons h1 _ ih => exact .cons h1 ih
theorem repka_put {kvs : List (L2.Key × AV)} {ws : List (L2.Key × V)} {k : L2.Key} {d : AV} (h : RepKs K B ρ kvs ws) (r : Rep K B ρ d v) : RepKs K B ρ (putAv kvs k d) (L2.putK ws k v) := by
  unfold putAv L2.putK
  rw [repka_any h]
  split
  · unfold RepKs at h
    induction h with
    | nil => exact .nil
    | @cons p q ps qs h1 h2 ih =>
      rw [List.map_cons, List.map_cons]
      refine .cons ?_ ?_
      · rw [h1.1]
        by_cases hk : q.1 = k
        · rw [if_pos hk, if_pos hk]; exact ⟨rfl, r⟩
        · rw [if_neg hk, if_neg hk]; exact h1
      · rename_i hany
        by_cases ha : (qs.any fun kv => decide (kv.1 = k)) = true
        · exact ih ha
        · have none : ∀ q ∈ qs, q.1 ≠ k := fun q hq e => ha (List.any_eq_true.mpr ⟨q, hq, decide_eq_true e⟩)
          have : ∀ {ps : List (L2.Key × AV)} {qs : List (L2.Key × V)}, Paired (fun (p : L2.Key × AV) (q : L2.Key × V) => p.1 = q.1 ∧ Rep K B ρ p.2 q.2) ps qs → (∀ q ∈ qs, q.1 ≠ k) →
              Paired (fun (p : L2.Key × AV) (q : L2.Key × V) => p.1 = q.1 ∧ Rep K B ρ p.2 q.2) (ps.map fun kv => if kv.1 = k then (kv.1, d) else kv) (qs.map fun kv => if kv.1 = k then (kv.1, v) else kv) := by
            intro ps qs hp
            induction hp with
            | nil => intro _; exact .nil
            | @cons p q ps qs h1 h2 ih =>
              intro hn
              have hq := hn q (List.mem_cons_self ..)
              rw [List.map_cons, List.map_cons, h1.1, if_neg hq, if_neg hq]
              exact .cons h1 (ih fun z hz => hn z (List.mem_cons_of_mem _ hz))
          exact this h2 none
  · exact repka_app h (.cons ⟨rfl, r⟩ .nil)
theorem repka_merge : ∀ {more : List (L2.Key × AV)} {rs : List (L2.Key × V)} {kvs : List (L2.Key × AV)} {ws : List (L2.Key × V)}, RepKs K B ρ more rs → RepKs K B ρ kvs ws → RepKs K B ρ (mergeA kvs more) (mergeK ws rs) := by
  intro more rs kvs ws r
  unfold RepKs at r
  induction r generalizing kvs ws with
  | nil => intro q; exact q
  | @cons p q ps qs h t ih =>
    intro r0
    refine ih (kvs := putAv kvs p.1 p.2) (ws := L2.putK ws q.1 q.2) ?_
    rw [h.1]
    exact repka_put r0 h.2
/-- a dict cell of any things -/
theorem G.daAt (g : G K B ρ κ H) {xs : List (L2.Key × AV)} (hp : ρ[k]? = some p) (ek : κ[k]? = some (.dA xs)) : ∃ vs, RepKs K B ρ xs vs ∧ H p = some (.dK vs) ∧
    ∀ xs' vs', RepKs K B ρ xs' vs' → Up B ρ H B ρ (upd H p (.dK vs')) ∧ G K B ρ (κ.set k (.dA xs')) (upd H p (.dK vs')) := by
  obtain ⟨p', hp', hb, vs, r, eH⟩ := g.cell ek
  rw [hp] at hp'; cases hp'
  refine ⟨vs, r, eH, fun xs' vs' r' => ⟨G.writeUp hp, ?_⟩⟩
  have hc : CellOk K B ρ (upd H p (.dK vs')) p (.dA xs') := ⟨hb, vs', r', upd_same⟩
  exact g.write hp hb hc
variable {o i val : Expr} {to' ti tv : TE} {fo fi fv : AE} {pos' : Pos}
def aAGet (f f2 : AE) : AE := fun δ κ R => f δ κ fun a κ1 => f2 δ κ1 fun b κ2 => match a with
  | .c k => ∃ kvs key d, κ2[k]? = some (.dA kvs) ∧ b = .d (keyD key) ∧ valA kvs key = some d ∧ R d κ2
  | _ => False
theorem ea_aget {l : Nat} (hr : Room l X.A) (h1 : PEa K X e t f) (h2 : PEa K X e2 u f2) (hs : NoSl e2 := by exact fun _ _ => rfl) : PEa K X (.Subscript e e2 pos) (tDGet t u) (aAGet f f2) :=
  ⟨pe_dget (Nat.lt_of_le_of_lt (by omega) hr.units) h1.pe h2.pe hs, fun B ρ δ κ σ H R Q s g hh q => h1.sd B ρ δ κ σ H _ _ s g hh fun B1 ρ1 κ1 H1 a x u1 g1 r1 k1 => h2.sd _ _ _ _ _ _ _ _ (s.up u1.g) g1 k1 fun B2 ρ2 κ2 H2 b y u2 g2 r2 k2 => by
    split at k2
    · obtain ⟨kvs, key, d, ek, rfl, hv, k2⟩ := k2
      obtain ⟨p, hp, rfl⟩ := r1.up u2.g
      obtain ⟨vs, r, eH, _⟩ := g2.daAt hp ek
      obtain ⟨v, hv', rv⟩ := repka_val r hv
      have := rep_key r2
      subst this
      exact ⟨p, v, rfl, by rw [← hv']; exact DGet.k eH, q _ _ _ _ d _ (u1.trans u2) g2 rv k2⟩
    · exact k2.elim⟩
/-- d[y] = v -/
def aAPut (fo fi fv : AE) : AS := fun A δ κ => fv δ κ fun v κ1 => fo δ κ1 fun a κ2 => fi δ κ2 fun b κ3 => match a with
  | .c k => ∃ kvs key d, κ3[k]? = some (.dA kvs) ∧ b = .d (keyD key) ∧ v = d ∧ kvs.length < sizeLine ∧ A.nx δ (κ3.set k (.dA (putAv kvs key d)))
  | _ => False
theorem sa_aput {l : Nat} (hr : Room l X.A) (ho : PEa K X o to' fo) (hi : PEa K X i ti fi) (hv : PEa K X val tv fv) (hs : swapsWith val (some (.Subscript o i pos')) pos.line X.env = pure false := by rfl) :
    PSa K X (.Assign [.Subscript o i pos'] val pos) (sDPut to' ti tv) (aAPut fo fi fv) :=
  ⟨ps_dput (Nat.lt_of_le_of_lt (by omega) hr.units) ho.pe hi.pe hv.pe hs, fun B ρ δ κ σ H A D s g l hh im => hv.sd B ρ δ κ σ H _ _ s g hh fun B1 ρ1 κ1 H1 v xv u1 g1 r1 k1 => ho.sd _ _ _ _ _ _ _ _ (s.up u1.g) g1 k1 fun B2 ρ2 κ2 H2 a xo u2 g2 r2 k2 => hi.sd _ _ _ _ _ _ _ _ (s.up (u1.trans u2).g) g2 k2 fun B3 ρ3 κ3 H3 b xi u3 g3 r3 k3 => by
    split at k3
    · obtain ⟨kvs, key, _, ek, rfl, rfl, hl, k3⟩ := k3
      obtain ⟨p, hp, rfl⟩ := r2.up u3.g
      obtain ⟨vs, r, eH, wr⟩ := g3.daAt hp ek
      have := rep_key r3
      subst this
      have rd : Rep K B3 ρ3 v xv := r1.up (u2.trans u3).g
      obtain ⟨u4, g4⟩ := wr _ _ (repka_put (k := key) r rd)
      have w := ((u1.trans u2).trans u3).trans u4
      refine ⟨p, _, rfl, DPut.k eH (by rw [← Paired.length r]; exact hl), im.nx _ _ _ _ _ _ w.n g4 (s.up w.g) (Nat.le_trans l (w.len g g4)) k3⟩
    · exact k3.elim⟩
variable {ks : List (Option Expr)} {vs : List Expr} {tps : List (TE × TE)} {gp : APs}
def aADisp (g : APs) : AE := fun δ κ R => g δ κ fun ps κ1 => ∃ kvs : List (L2.Key × AV), ps = kvs.map (fun p => (.d (keyD p.1), p.2)) ∧ kvs.length ≤ 15 ∧ R (.c κ1.length) (κ1 ++ [.dA (mergeA [] kvs)])
theorem repP_kva : ∀ {kvs : List (L2.Key × AV)} {ps : List (V × V)}, RepP K B ρ (kvs.map (fun p => (.d (keyD p.1), p.2))) ps → ∃ ws : List (L2.Key × V), ps = ws.map (fun p => (kV p.1, p.2)) ∧ RepKs K B ρ kvs ws
  | [], _, h => by cases h; exact ⟨[], rfl, .nil⟩
  | p :: kvs, _, h => by
    rw [List.map_cons] at h
    cases h with
    | @cons _ b _ bs h1 h2 =>
      obtain ⟨ws, rfl, r⟩ := repP_kva h2
      obtain ⟨b1, b2⟩ := b
      have e : b1 = kV p.1 := rep_key h1.1
      subst e
      exact ⟨(p.1, b2) :: ws, rfl, .cons ⟨rfl, h1.2⟩ r⟩
theorem ea_adisp {keys : List (Option Expr)} {values : List Expr} (h : PPa K X pos keys values tps gp) (hall : keys.all (·.isSome) = true := by rfl) (hl : keys.length = values.length := by rfl) (h0 : keys ≠ [] := by exact List.cons_ne_nil _ _)
    (h15 : keys.length ≤ 15 := by decide) : PEa K X (.Dict keys values pos) (tDisp tps) (aADisp gp) :=
  ⟨pe_disp h.pp hall hl h0 h15, fun B ρ δ κ σ H R Q s g hh q => by
    intro p hp
    have hb := g.fresh hp
    have hr : p ∉ ρ := fun z => by
      obtain ⟨i, hi⟩ := List.mem_iff_getElem?.mp z
      exact g.nin hp hi rfl
    refine h.sd B ρ δ κ σ _ _ _ s (g.off hb hr (K.up _ _ _ _ _ _ (Up.refl.off hp).n g.z)) hh fun B1 ρ1 κ1 H1 as vs u1 g1 r1 h1 => ?_
    obtain ⟨kvs, rfl, h15, h1⟩ := h1
    obtain ⟨ws, rfl, rd⟩ := repP_kva r1
    obtain ⟨eD, b1, n1⟩ := u1.f p (.dK []) upd_same (.inl hb) hr
    have b1 : B1 p = none := b1.elim id fun ⟨ws, z⟩ => by cases z
    refine ⟨eD, ws, rfl, by rw [← Paired.length rd]; exact h15, ?_⟩
    have wz : Up B ρ H B1 (ρ1 ++ [p]) (upd H1 p (.dK (mergeK [] ws))) := by
      refine ⟨u1.s, fun i a h => get_app (u1.p i a h), fun r o h1 h2 h3 => ?_⟩
      have hq := ne_of_none h1 hp
      obtain ⟨y1, y2, y3⟩ := u1.f r o (by rw [upd_ne hq]; exact h1) h2 h3
      refine ⟨by rw [upd_ne hq]; exact y1, y2, fun z => ?_⟩
      rcases List.mem_append.mp z with z | z
      · exact y3 z
      · exact hq (by simpa using z)
    -- the dict becomes a cell
    have g2 : G K B1 (ρ1 ++ [p]) (κ1 ++ [.dA (mergeA [] kvs)]) (upd H1 p (.dK (mergeK [] ws))) := by
      have hc : CellOk K B1 ρ1 (upd H1 p (.dK (mergeK [] ws))) p (.dA (mergeA [] kvs)) := ⟨b1, _, repka_merge rd .nil, upd_same⟩
      refine ⟨fun b u e => ?_, by rw [List.length_append, List.length_append, g1.len] <;> rfl, fun i j r h1 h2 => ?_, fun i r c h1 h2 => ?_, K.up _ _ _ _ _ _ wz.n g.z⟩
      · rw [upd_ne (ne_of_none e b1)]; exact g1.ex b u e
      · rcases get_snoc h1 with ⟨l1, e1⟩ | ⟨l1, e1⟩
        · rcases get_snoc h2 with ⟨l2, e2⟩ | ⟨l2, e2⟩
          · exact g1.inj i j r e1 e2
          · subst e2; exact absurd (mem_of_get e1) n1
        · rcases get_snoc h2 with ⟨l2, e2⟩ | ⟨l2, e2⟩
          · subst e1; exact absurd (mem_of_get e2) n1
          · rw [l1, l2]
      · rcases get_snoc h1 with ⟨l1, e1⟩ | ⟨l1, e1⟩
        · rw [List.getElem?_append_left (g1.len ▸ l1)] at h2
          have hq : r ≠ p := fun z => n1 (z ▸ mem_of_get e1)
          exact (g1.at' i r c e1 h2).up up_snoc Or.inl fun o' e => by rw [upd_ne hq]; exact e
        · subst e1
          rcases get_snoc h2 with ⟨l2, e2⟩ | ⟨l2, e2⟩
          · rw [l1, g1.len] at l2; exact absurd l2 (Nat.lt_irrefl _)
          · subst e2; exact hc.up up_snoc Or.inl fun _ e => e
    exact q B1 (ρ1 ++ [p]) _ _ _ _ wz g2 (rep_new g1) h1⟩
end Ab
set_option Elab.async false
set_option linter.all false
set_option maxRecDepth 100000
set_option maxHeartbeats 4000000
/-! Ab24: raise C() without an own __init__; get, pop, del and == of dicts; sorted lists of tuples -/
namespace L2
open PySem PySem.Spec PyProof.Rows
/-- C(), C an own exception class without own __init__ -/
theorem pmk_own0 {X : Cx} {C : Addr} {bmB : List Value} {B newId initId : String} {x : Str} {p pos : Pos} (F : ExcBaseFacts B newId initId bmB) (q : PySem.W.excIn X.K C bmB newId = true) (gC : X.mg x = some (.ref C))
    (kC : PySem.W.keepIn X.K (.ref C) = true) (r : Raises X (.ref C)) (hg : Gl X x) (hdb : (x == ("__debug__" : Str)) = false := by decide) :
    PMk X (.Call (.Name x p) [] [] pos) (fun _ H Q => Q (.ref C) none H) := by
  intro pins s σ H Q I h
  refine wpAny_Call_Name_kw (ld_glob I hg gC ?_ hdb)
  refine PySem.W.callWith_K0 I.kIn kC ?_
  show wpAny _ _ (call (.ref C) []) _ _ _
  obtain ⟨bm, N, nm, qn, bs, hdct, sn, sub, ab, col, dd, k0, k1, k2, k3, k5, mN, hC, hN, hni, T⟩ := exc_obj I.kIn q
  refine wpAny_call_exc_subT F T hC hN hni (fun h' e hm => ?_) (Nat.zero_le _)
  exact mk_of I hm r h (I.hok.gone hm.new)
end L2
namespace Ab
open PySem L2
variable {K : Frg} {B B' B2 H H' H2 : Hp} {ρ ρ' ρ2 : List Addr} {κ κ' : AK} {δ : AD} {σ : L2.St} {p : Addr} {k : Nat} {v x y z : V} {a b c : AV} {X : Cx} {e e2 e3 : Expr} {t u : TE} {f f2 f3 : AE} {pos : Pos}
theorem sa_raise0 {W : WX} {E' : AEx} {C : Addr} {x : Str} {q pos pos2 : Pos} (T : ExF X.K x C) (xi : PySem.W.excIn X.K C PySem.HandSPX.veTail "ValueError.__new__" = true) (hc : X.calm = true) (tk : Takes X W) (hx : HX K E' W) (hg : Gl X x) (hm : X.mg x = some (.ref C))
    (hdb : (x == ("__debug__" : Str)) = false := by decide) (hK : X.K = K.K := by rfl) : PSa K X (.Raise (some (.Call (.Name x q) [] [] pos)) none pos2) (fun D σ H => W (.ref C) none σ H) (aRaise0 x E') := by
  refine ⟨ps_raise hc tk (pmk_own0 PySem.F.excBase_ValueError xi hm T.ox.kC (raises_own T.ox.exC T.ox.tyC) hg hdb), fun B ρ δ κ σ H A D s g l h im => ?_⟩
  exact hx _ _ _ _ _ _ _ g h ⟨by rw [← hK]; exact T.ns, .inl ⟨rfl, rfl⟩⟩ σ
/-! ### get, pop, del -/
variable {o i : Expr} {to' ti tx : TE} {fo fi fx : AE} {apos cpos : Pos}
def aDGet2 (fo fi fx : AE) : AE := fun δ κ R => fo δ κ fun a κ1 => (∃ k kvs, a = .c k ∧ κ1[k]? = some (.dK kvs)) ∧ fi δ κ1 fun b κ2 => fx δ κ2 fun c κ3 => match a with
  | .c k => ∃ kvs key, κ3[k]? = some (.dK kvs) ∧ b = .d (keyD key) ∧ R (match valD kvs key with | some d => .d d | none => c) κ3
  | _ => False
theorem dpks_none {kvs : List (L2.Key × PyData)} {ws : List (L2.Key × V)} {k : L2.Key} (h : DpKs K B kvs ws) (hn : valD kvs k = none) : valV ws k = none := by
  have := dpks_isSome (k := k) h
  rw [hn] at this
  cases hv : valV ws k with
  | none => rfl
  | some v => rw [hv] at this; cases this
theorem ea_dget2 {l : Nat} (hr : Room l X.A) (ho : PEa K X o to' fo) (hi : PEa K X i ti fi) (hx : PEa K X e tx fx) (m : M2 X o "get" apos i e cpos := by exact ⟨rfl, rfl, rfl, rfl⟩) :
    PEa K X (.Call (.Attribute o "get" apos) [i, e] [] cpos) (tDGet2 to' ti tx) (aDGet2 fo fi fx) :=
  ⟨pe_dget2 (Nat.lt_of_le_of_lt (by omega) hr.units) ho.pe hi.pe hx.pe m, fun B ρ δ κ σ H R Q s g hh q => ho.sd B ρ δ κ σ H _ _ s g hh fun B1 ρ1 κ1 H1 a x u1 g1 r1 ⟨⟨k, kv0, ea, ek0⟩, k1⟩ => by
    subst ea
    obtain ⟨p, hp, rfl⟩ := id r1
    obtain ⟨vs0, _, eH0, _⟩ := g1.dkAt hp ek0
    refine ⟨p, rfl, .inl ⟨vs0, .inl eH0⟩, hi.sd _ _ _ _ _ _ _ _ (s.up u1.g) g1 k1 fun B2 ρ2 κ2 H2 b y u2 g2 r2 k2 => hx.sd _ _ _ _ _ _ _ _ (s.up (u1.trans u2).g) g2 k2 fun B3 ρ3 κ3 H3 c z u3 g3 r3 k3 => ?_⟩
    obtain ⟨kvs, key, ek, rfl, k3⟩ := k3
    have hp3 := (u2.trans u3).p _ _ hp
    obtain ⟨vs, r, eH, _⟩ := g3.dkAt hp3 ek
    have := rep_key (r2.up u3.g)
    subst this
    refine ⟨_, DGet.k eH, ?_⟩
    cases hv : valD kvs key with
    | some d =>
      rw [hv] at k3
      obtain ⟨v, hv', rv⟩ := dpks_val r hv
      rw [hv']
      exact q _ _ _ _ (.d d) _ ((u1.trans u2).trans u3) g3 rv k3
    | none =>
      rw [hv] at k3
      rw [dpks_none r hv]
      exact q _ _ _ _ _ _ ((u1.trans u2).trans u3) g3 r3 k3⟩
def dropD (kvs : List (L2.Key × PyData)) (k : L2.Key) : List (L2.Key × PyData) := kvs.filter fun kv => decide (kv.1 ≠ k)
theorem dpks_drop {K : PySem.W.Frag} {kvs : List (L2.Key × PyData)} {ws : List (L2.Key × V)} {k : L2.Key} (h : DpKs K B kvs ws) : DpKs K B (dropD kvs k) (L2.dropK ws k) := by
  unfold DpKs at h
  unfold dropD L2.dropK
  induction h with
  | nil => exact .nil
  | @cons p q ps qs h1 h2 ih =>
    rw [List.filter_cons, List.filter_cons, h1.1]
    by_cases hk : q.1 = k
    · rw [if_neg (by simpa using hk), if_neg (by simpa using hk)]; exact ih
    · rw [if_pos (by simpa using hk), if_pos (by simpa using hk)]; exact .cons h1 ih
def aDPop1 (fo fi : AE) : AE := fun δ κ R => fo δ κ fun a κ1 => (∃ k kvs, a = .c k ∧ κ1[k]? = some (.dK kvs)) ∧ fi δ κ1 fun b κ2 => match a with
  | .c k => ∃ kvs key d, κ2[k]? = some (.dK kvs) ∧ b = .d (keyD key) ∧ valD kvs key = some d ∧ R (.d d) (κ2.set k (.dK (dropD kvs key)))
  | _ => False
theorem ea_dpop1 (ho : PEa K X o to' fo) (hi : PEa K X i ti fi) (m : M1 X o "pop" apos i cpos := by exact ⟨rfl, rfl, rfl, rfl⟩) :
    PEa K X (.Call (.Attribute o "pop" apos) [i] [] cpos) (tDPop1 to' ti) (aDPop1 fo fi) :=
  ⟨pe_dpop1 ho.pe hi.pe m, fun B ρ δ κ σ H R Q s g hh q => ho.sd B ρ δ κ σ H _ _ s g hh fun B1 ρ1 κ1 H1 a x u1 g1 r1 ⟨⟨k, kv0, ea, ek0⟩, k1⟩ => by
    subst ea
    obtain ⟨p, hp, rfl⟩ := id r1
    obtain ⟨vs0, _, eH0, _⟩ := g1.dkAt hp ek0
    refine ⟨p, rfl, .inl ⟨vs0, .inl eH0⟩, hi.sd _ _ _ _ _ _ _ _ (s.up u1.g) g1 k1 fun B2 ρ2 κ2 H2 b y u2 g2 r2 k2 => ?_⟩
    obtain ⟨kvs, key, d, ek, rfl, hv, k2⟩ := k2
    obtain ⟨vs, r, eH, wr⟩ := g2.dkAt (u2.p _ _ hp) ek
    have := rep_key r2
    subst this
    obtain ⟨v, hv', rv⟩ := dpks_val r hv
    obtain ⟨u3, g3⟩ := wr _ _ (dpks_drop (k := key) r)
    exact ⟨vs, key, v, eH, rfl, hv', q _ _ _ _ (.d d) _ ((u1.trans u2).trans u3) g3 rv k2⟩⟩
def aDDel (fo fi : AE) : AS := fun A δ κ => fo δ κ fun a κ1 => fi δ κ1 fun b κ2 => match a with
  | .c k => ∃ kvs key, κ2[k]? = some (.dK kvs) ∧ b = .d (keyD key) ∧ (valD kvs key).isSome = true ∧ A.nx δ (κ2.set k (.dK (dropD kvs key)))
  | _ => False
theorem sa_ddel {pos tpos : Pos} (ho : PEa K X o to' fo) (hi : PEa K X i ti fi) : PSa K X (.Delete [.Subscript o i tpos] pos) (sDDel to' ti) (aDDel fo fi) :=
  ⟨ps_ddel ho.pe hi.pe, fun B ρ δ κ σ H A D s g l hh im => ho.sd B ρ δ κ σ H _ _ s g hh fun B1 ρ1 κ1 H1 a x u1 g1 r1 k1 => hi.sd _ _ _ _ _ _ _ _ (s.up u1.g) g1 k1 fun B2 ρ2 κ2 H2 b y u2 g2 r2 k2 => by
    split at k2
    · obtain ⟨kvs, key, ek, rfl, hv, k2⟩ := k2
      obtain ⟨p, hp, rfl⟩ := r1.up u2.g
      obtain ⟨vs, r, eH, wr⟩ := g2.dkAt hp ek
      have := rep_key r2
      subst this
      obtain ⟨u3, g3⟩ := wr _ _ (dpks_drop (k := key) r)
      have w := (u1.trans u2).trans u3
      refine ⟨p, vs, key, rfl, eH, rfl, by rw [dpks_isSome r]; exact hv, im.nx _ _ _ _ _ _ w.n g3 (s.up w.g) (Nat.le_trans l (w.len g g3)) k2⟩
    · exact k2.elim⟩
/-! ### == of dicts with the same entries -/
def aEqDV (n : Bool) : AO := fun a b κ R => match a, b with
  | .c i, .c j => ∃ ks ls, κ[i]? = some (.dK ks) ∧ κ[j]? = some (.dK ls) ∧ ks.length = ls.length ∧ (∀ p ∈ ks, valD ls p.1 = some p.2 ∧ flatD p.2 = true) ∧ R (.d (.bool n)) κ
  | _, _ => False
theorem dp_flat_eq {K : PySem.W.Frag} {d : PyData} {v w : V} (h : Dp K B v d) (h2 : Dp K B w d) (f : flatD d = true) : v = w ∧ flatB v = true := by
  cases d with
  | none => cases h; cases h2; exact ⟨rfl, rfl⟩
  | bool b => cases h; cases h2; exact ⟨rfl, rfl⟩
  | int b => cases h; cases h2; exact ⟨rfl, rfl⟩
  | str b => cases h; cases h2; exact ⟨rfl, rfl⟩
  | list _ => cases f
  | tuple _ => cases f
  | dict _ => cases f
theorem dpks_mem {K : PySem.W.Frag} {kvs : List (L2.Key × PyData)} {ws : List (L2.Key × V)} (h : DpKs K B kvs ws) : ∀ q ∈ ws, ∃ p ∈ kvs, p.1 = q.1 ∧ Dp K B q.2 p.2 := by
  unfold DpKs at h
  induction h with
  | nil => intro q hq; cases hq
  | @cons p q ps qs h1 h2 ih =>
    intro z hz
    rcases List.mem_cons.mp hz with rfl | hz
    · exact ⟨p, List.mem_cons_self .., h1⟩
    · obtain ⟨p', m, r⟩ := ih z hz; exact ⟨p', List.mem_cons_of_mem _ m, r⟩
theorem deq_core (g : G K B ρ κ H) {i j : Nat} {x y : V} {ks ls : List (L2.Key × PyData)} (rx : Rep K B ρ (.c i) x) (ry : Rep K B ρ (.c j) y) (e1 : κ[i]? = some (.dK ks)) (e2 : κ[j]? = some (.dK ls)) (hl : ks.length = ls.length) (h : ∀ p ∈ ks, valD ls p.1 = some p.2 ∧ flatD p.2 = true) :
    ∃ a b ks' ls', x = .ref a ∧ y = .ref b ∧ H a = some (.dK ks') ∧ H b = some (.dK ls') ∧ ks'.length = ls'.length ∧ (∀ p ∈ ks', valV ls' p.1 = some p.2 ∧ flatB p.2 = true) := by
  obtain ⟨p, hp, rfl⟩ := rx
  obtain ⟨q, hq, rfl⟩ := ry
  obtain ⟨vs, r, eH, _⟩ := g.dkAt hp e1
  obtain ⟨us, r2, eH2, _⟩ := g.dkAt hq e2
  refine ⟨p, q, vs, us, rfl, rfl, eH, eH2, by rw [← Paired.length r, ← Paired.length r2]; exact hl, fun w hw => ?_⟩
  obtain ⟨pd, hpd, ek, dv⟩ := dpks_mem r w hw
  obtain ⟨h1, h2⟩ := h pd hpd
  obtain ⟨v', hv', rv⟩ := dpks_val r2 h1
  obtain ⟨e, fl⟩ := dp_flat_eq dv rv h2
  rw [← ek, hv', e]
  exact ⟨rfl, by rw [← e]; exact fl⟩
theorem oa_deq {l : Nat} (hr : Room l X.A) : OpA K X (compareOp .Eq) rEqDA (aEqDV true) := ⟨op_eq_dictA (Nat.lt_of_le_of_lt (by omega) hr.units), by
  intro B ρ κ H x y a b R Q g rx ry h q
  unfold aEqDV at h
  split at h
  · obtain ⟨ks, ls, e1, e2, hl, hp, h⟩ := h
    obtain ⟨p1, p2, k1, k2, z1, z2, z3, z4, z5, z6⟩ := deq_core g rx ry e1 e2 hl hp
    exact ⟨p1, p2, k1, k2, z1, z2, z3, z4, z5, z6, q.at0 g (rp_bl _) h⟩
  · exact h.elim⟩
theorem oa_dne {l : Nat} (hr : Room l X.A) : OpA K X (compareOp .NotEq) rNeDA (aEqDV false) := ⟨op_ne_dictA (Nat.lt_of_le_of_lt (by omega) hr.units), by
  intro B ρ κ H x y a b R Q g rx ry h q
  unfold aEqDV at h
  split at h
  · obtain ⟨ks, ls, e1, e2, hl, hp, h⟩ := h
    obtain ⟨p1, p2, k1, k2, z1, z2, z3, z4, z5, z6⟩ := deq_core g rx ry e1 e2 hl hp
    exact ⟨p1, p2, k1, k2, z1, z2, z3, z4, z5, z6, q.at0 g (rp_bl _) h⟩
  · exact h.elim⟩
end Ab
/-! ### sorted lists of tuples -/
namespace Ab
open PySem L2 PyProof.Rows PyProof.Rows.G PySem.W
def rSortLT (K : PySem.W.Frag) : List V → Hp → VK → Prop := fun xs H Q => ∃ (a : Addr) (l : List (List L2.Key × Addr)) (shape : Nat → Bool), xs = [V.ref a] ∧ SqL K H a (l.map fun x => V.ref x.2) ∧ (∀ x ∈ l, SqT K H x.2 (x.1.map kV) ∧ okSh shape 0 x.1 ∧ x.1 ≠ []) ∧ l.length < 64 ∧
  ∀ (l' : List (List L2.Key × Addr)) p, l'.Perm l → SrtKs (l'.map (·.1)) → H p = none → Q (.ref p) (upd H p (.lst (l'.map fun x => V.ref x.2)))
theorem vals_refs : ∀ {l : List (List L2.Key × Addr)} {its : List Value}, Vals (l.map fun x => V.ref x.2) its → its = l.map fun x => Value.ref x.2
  | [], _, h => by cases h; rfl
  | x :: l, _, h => by
    cases h with
    | @cons _ b _ bs h1 h2 =>
      cases (show b = Value.ref x.2 from h1)
      rw [vals_refs h2]; rfl
theorem cr_sortedLT {X : L2.Cx} : CallR X (.builtin "sorted") (rSortLT X.K) := by
  intro pins s σ H vs us Q I r h
  obtain ⟨a, l, shape, rfl, hs, hl, h64, q⟩ := h
  obtain ⟨its, rv, hL, _⟩ := I.list hs
  rw [Vals.ref1 r]
  have ei := vals_refs rv
  have hlen : its.length = l.length := by rw [ei, List.length_map]
  have hA : KAts s.heap shape l := fun x hx => by
    obtain ⟨z1, z2, z3⟩ := hl x hx
    obtain ⟨it2, r2, t2, _⟩ := I.tuple z1
    exact ⟨⟨it2, r2, t2⟩, z2, z3⟩
  have hL := hL.isList
  refine Calls.call_function_entry kind_sorted plain_sorted entry_sorted (args_sorted1 _) ?_
  unfold Builtin.«sorted»
  refine wpAny_bind (m := checkCount "sorted" 1 1 _) (wpAny_pure ?_)
  refine wpAny_bind (collect_list hL ?_ (by rw [sizeLine_eq]; omega))
  refine wpAny_bind (wpAny_newList ?_ (by rw [sizeLine_eq]; omega))
  have hsz : ((s.heap.push (seqObj "list" #[] 0)).update s.heap.objs.size (Obj.mapSeq (· ++ its.toArray))).objs.size = s.heap.objs.size + 1 := by
    rw [Heap.size_update, size_push']
  have hoL : (((s.heap.push (seqObj "list" #[] 0)).update s.heap.objs.size (Obj.mapSeq (· ++ its.toArray))).push (seqObj "list" its.toArray 0)).get? (s.heap.objs.size + 1) = some (seqObj "list" its.toArray 0) := by
    rw [← hsz]; exact Heap.get?_push_size _ rfl
  have keep : ∀ b o, s.heap.get? b = some o → (((s.heap.push (seqObj "list" #[] 0)).update s.heap.objs.size (Obj.mapSeq (· ++ its.toArray))).push (seqObj "list" its.toArray 0)).get? b = some o := fun b o q => by
    have hlt : b < s.heap.objs.size := Heap.lt_size q
    rw [Heap.get?_push_ne _ _ _ (by rw [hsz]; exact Nat.ne_of_lt (Nat.lt_succ_of_lt hlt)), Heap.get?_update_ne _ _ _ _ (Nat.ne_of_lt hlt), Heap.get?_push_ne _ _ _ (Nat.ne_of_lt hlt)]
    exact q
  show wpAny _ _ _ _ _ { s with heap := ((s.heap.push (seqObj "list" #[] 0)).update s.heap.objs.size (Obj.mapSeq (· ++ its.toArray))).push (seqObj "list" its.toArray 0) }
  rw [hsz]
  have hA2 := hA.keep keep
  obtain ⟨fs, hfs⟩ := tups_of hA2
  rw [← ei] at hfs
  refine wpAny_bind (wpAny_holding (wpAny_call_entry slot_list_sort ⟨_, hoL, rfl⟩ entry_list_sort (list_sort_tups (shape := shape) hoL hfs (fun v hv => ?_) (by rw [sizeLine_eq]; omega) fun st' hp hs2 _ => ⟨_, rfl, ?_⟩) (args_list_sort _)))
  · rw [ei] at hv
    obtain ⟨x, hx, rfl⟩ := List.mem_map.mp hv
    exact ⟨_, keyC_of (hA2 x hx).1 (hA2 x hx).2.1⟩
  · have hp2 : (arrOf st').Perm (pairsOf (l.map fun x => Value.ref x.2)) := by rw [← ei]; exact hp
    have hs3 := hs2
    rw [ei] at hs3
    obtain ⟨l', g1, g2, g3⟩ := sort_out (h := ((s.heap.push (seqObj "list" #[] 0)).update s.heap.objs.size (Obj.mapSeq (· ++ its.toArray))).push (seqObj "list" its.toArray 0)) hA2 hp2 (by rw [ei]; exact hs3)
    obtain ⟨ep, he'⟩ := PyProof.Rows.sortedAll_at s.heap its ((arrOf st').map (·.2))
    have hl' : l'.length = l.length := g1.length_eq
    have hlen2 : (l'.map fun x => V.ref x.2).length ≤ sizeLine := by rw [List.length_map, hl']; exact small64 h64
    refine wpAny_pure ⟨_, rfl, .ref _, upd H (s.heap.objs.size + 1) (.lst (l'.map fun x => V.ref x.2)), I.laid (t' := s.toks) (fun _ _ => PyProof.Rows.sortedAll_old) (Nat.le_succ _)
      ⟨hlen2, ((arrOf st').map (·.2)).toList, ep, by rw [g2]; exact vals_maps _ _ _ fun x _ => rfl, by rw [Array.toArray_toList]; exact he'⟩, rfl, q l' _ g1 g3 (I.hok.fresh (Nat.le_succ _))⟩
end Ab
set_option Elab.async false
set_option linter.all false
set_option maxRecDepth 100000
set_option maxHeartbeats 4000000
/-! Ab25: dicts that are walked: locks, keys, items; dict comprehensions -/
namespace Ab
open PySem L2
variable {K : Frg} {B B' B2 H H' H2 : Hp} {ρ ρ' ρ2 : List Addr} {κ κ' : AK} {δ : AD} {σ : L2.St} {p : Addr} {k : Nat} {v x y z : V} {a b c : AV} {X : Cx} {e e2 e3 : Expr} {t u : TE} {f f2 f3 : AE} {pos : Pos}
/-! ### a lock -/
theorem G.fkAt (g : G K B ρ κ H) {od : Obj} {ws : List (L2.Key × V)} {xs : List (L2.Key × PyData)} (hp : ρ[k]? = some p) (ek : κ[k]? = some (.fk od ws xs)) : DpKs K B xs ws ∧ H p = some (.frz od (.dK ws)) ∧ B p = none := by
  obtain ⟨p', hp', hb, r, eH⟩ := g.cell ek
  rw [hp] at hp'; cases hp'
  exact ⟨r, eH, hb⟩
theorem G.lock (g : G K B ρ κ H) {kvs : List (L2.Key × PyData)} (ek : κ[k]? = some (.dK kvs)) : ∃ p ws, ρ[k]? = some p ∧ H p = some (.dK ws) ∧ ∀ od, G K B ρ (κ.set k (.fk od ws kvs)) (upd H p (.frz od (.dK ws))) := by
  obtain ⟨p, hp, hb, ws, r, eH⟩ := g.cell ek
  refine ⟨p, ws, hp, eH, fun od => ?_⟩
  have hc : CellOk K B ρ (upd H p (.frz od (.dK ws))) p (.fk od ws kvs) := ⟨hb, r, upd_same⟩
  exact g.write hp hb hc
theorem G.unlock (g : G K B ρ κ H) {od : Obj} {ws : List (L2.Key × V)} {kvs : List (L2.Key × PyData)} (hp : ρ[k]? = some p) (ek : κ[k]? = some (.fk od ws kvs)) : H p = some (.frz od (.dK ws)) ∧ G K B ρ (κ.set k (.dK kvs)) (upd H p (.dK ws)) := by
  obtain ⟨r, eH, hb⟩ := g.fkAt hp ek
  have hc : CellOk K B ρ (upd H p (.dK ws)) p (.dK kvs) := ⟨hb, ws, r, upd_same⟩
  exact ⟨eH, g.write hp hb hc⟩
def aLockE (f : AE) : AE := fun δ κ R => ∃ k kvs, κ[k]? = some (.dK kvs) ∧ ∀ od ws, f δ (κ.set k (.fk od ws kvs)) fun a κ' => κ'[k]? = some (.fk od ws kvs) ∧ R a (κ'.set k (.dK kvs))
theorem ea_lock (h : PEa K X e t f) : PEa K X e (tLockE t) (aLockE f) := ⟨pe_lock h.pe, fun B ρ δ κ σ H R Q s g ⟨k, kvs, ek, hh⟩ q => by
  obtain ⟨p, ws, hp, eH, lk⟩ := g.lock ek
  refine ⟨p, .dK ws, eH, trivial, fun od => ?_⟩
  have u0 : Up B ρ H B ρ (upd H p (.frz od (.dK ws))) := G.writeUp hp
  refine h.sd B ρ δ _ σ _ _ _ s (lk od) (hh od ws) fun B' ρ' κ' H' a v w g' r ⟨ek', hR⟩ => ?_
  have hp' := w.p _ _ hp
  obtain ⟨eH', g2⟩ := g'.unlock hp' ek'
  exact ⟨eH', q _ _ _ _ _ _ ((u0.trans w).trans (G.writeUp hp')) g2 r hR⟩⟩
def aLock (f : AS) : AS := fun A δ κ => ∃ k kvs, k < A.n ∧ κ[k]? = some (.dK kvs) ∧ ∀ od ws, f ⟨A.n, fun δ' κ' => κ'[k]? = some (.fk od ws kvs) ∧ A.nx δ' (κ'.set k (.dK kvs)), fun a κ' => κ'[k]? = some (.fk od ws kvs) ∧ A.rt a (κ'.set k (.dK kvs)),
  fun δ' κ' => κ'[k]? = some (.fk od ws kvs) ∧ A.bk δ' (κ'.set k (.dK kvs)), fun δ' κ' => κ'[k]? = some (.fk od ws kvs) ∧ A.ct δ' (κ'.set k (.dK kvs))⟩ δ (κ.set k (.fk od ws kvs))
theorem sa_lock {st : Stmt} {t : TS} {f : AS} (h : PSa K X st t f) : PSa K X st (tLock t) (aLock f) := ⟨ps_lock h.ps, fun B ρ δ κ σ H A D s g l ⟨k, kvs, hk, ek, hh⟩ im => by
  obtain ⟨p, ws, hp, eH, lk⟩ := g.lock ek
  refine ⟨p, .dK ws, eH, trivial, fun od => ?_⟩
  have u0 : Up B ρ H B ρ (upd H p (.frz od (.dK ws))) := G.writeUp hp
  have key : ∀ {B' ρ' κ' H'}, UpN A.n B ρ (upd H p (.frz od (.dK ws))) B' ρ' H' → G K B' ρ' κ' H' → κ'[k]? = some (.fk od ws kvs) → H' p = some (.frz od (.dK ws)) ∧ UpN A.n B ρ H B' ρ' (upd H' p (.dK ws)) ∧ G K B' ρ' (κ'.set k (.dK kvs)) (upd H' p (.dK ws)) := fun {B' ρ' κ' H'} w g' ek' => by
    have hp' := w.p _ _ hk hp
    obtain ⟨eH', g2⟩ := g'.unlock hp' ek'
    exact ⟨eH', (u0.n.trans w).trans (G.writeUp hp').n, g2⟩
  have hlen : A.n ≤ (κ.set k (.fk od ws kvs)).length := by rw [List.length_set]; exact l
  refine h.sd B ρ δ _ σ _ _ _ s (lk od) ?_ (hh od ws) ⟨fun B' ρ' κ' H' δ' σ' w g' s' l' ⟨e1, e2⟩ => ?_, fun B' ρ' κ' H' a v w g' r l' ⟨e1, e2⟩ => ?_, fun B' ρ' κ' H' δ' σ' w g' s' l' ⟨e1, e2⟩ => ?_, fun B' ρ' κ' H' δ' σ' w g' s' l' ⟨e1, e2⟩ => ?_, im.kn⟩
  · exact hlen
  · obtain ⟨z1, z2, z3⟩ := key w g' e1
    exact ⟨z1, im.nx _ _ _ _ _ _ z2 z3 s' (by rw [List.length_set]; exact l') e2⟩
  · obtain ⟨z1, z2, z3⟩ := key w g' e1
    exact ⟨z1, im.rt _ _ _ _ _ _ z2 z3 r (by rw [List.length_set]; exact l') e2⟩
  · obtain ⟨z1, z2, z3⟩ := key w g' e1
    exact ⟨z1, im.bk _ _ _ _ _ _ z2 z3 s' (by rw [List.length_set]; exact l') e2⟩
  · obtain ⟨z1, z2, z3⟩ := key w g' e1
    exact ⟨z1, im.ct _ _ _ _ _ _ z2 z3 s' (by rw [List.length_set]; exact l') e2⟩⟩
/-! ### d[y] of a walked dict -/
def aFGet (f f2 : AE) : AE := fun δ κ R => f δ κ fun a κ1 => f2 δ κ1 fun b κ2 => match a with
  | .c k => ∃ od ws kvs key d, κ2[k]? = some (.fk od ws kvs) ∧ b = .d (keyD key) ∧ valD kvs key = some d ∧ R (.d d) κ2
  | _ => False
theorem ea_fget {l : Nat} (hr : Room l X.A) (h1 : PEa K X e t f) (h2 : PEa K X e2 u f2) (hs : NoSl e2 := by exact fun _ _ => rfl) : PEa K X (.Subscript e e2 pos) (tDGet t u) (aFGet f f2) :=
  ⟨pe_dget (Nat.lt_of_le_of_lt (by omega) hr.units) h1.pe h2.pe hs, fun B ρ δ κ σ H R Q s g hh q => h1.sd B ρ δ κ σ H _ _ s g hh fun B1 ρ1 κ1 H1 a x u1 g1 r1 k1 => h2.sd _ _ _ _ _ _ _ _ (s.up u1.g) g1 k1 fun B2 ρ2 κ2 H2 b y u2 g2 r2 k2 => by
    split at k2
    · obtain ⟨od, ws, kvs, key, d, ek, rfl, hv, k2⟩ := k2
      obtain ⟨p, hp, rfl⟩ := r1.up u2.g
      obtain ⟨r, eH, _⟩ := g2.fkAt hp ek
      obtain ⟨v, hv', rv⟩ := dpks_val r hv
      have := rep_key r2
      subst this
      exact ⟨p, v, rfl, by rw [← hv']; exact .inl ⟨ws, key, .inr ⟨od, eH⟩, rfl, rfl⟩, q _ _ _ _ (.d d) _ (u1.trans u2) g2 rv k2⟩
    · exact k2.elim⟩
/-! ### keys and items -/
theorem dp_keyD {K : PySem.W.Frag} (key : L2.Key) : Dp K B (kV key) (keyD key) := by
  cases key with
  | inl i => exact .int i
  | inr s => exact .str s
def itFK (k : Nat) (od : Obj) (ws : List (L2.Key × V)) (kvs : List (L2.Key × PyData)) : AIt := ⟨fun i κ => κ[k]? = some (.fk od ws kvs) ∧ i < kvs.length, fun i κ a => κ[k]? = some (.fk od ws kvs) ∧ ∃ key d, kvs[i]? = some (key, d) ∧ a = .d (keyD key), fun i κ => κ[k]? = some (.fk od ws kvs) ∧ kvs.length ≤ i⟩
def itFI (k : Nat) (od : Obj) (ws : List (L2.Key × V)) (kvs : List (L2.Key × PyData)) : AIt := ⟨fun i κ => κ[k]? = some (.fk od ws kvs) ∧ i < kvs.length, fun i κ a => κ[k]? = some (.fk od ws kvs) ∧ ∃ key d, kvs[i]? = some (key, d) ∧ a = .d (.tuple [keyD key, d]), fun i κ => κ[k]? = some (.fk od ws kvs) ∧ kvs.length ≤ i⟩
theorem dpks_get {K : PySem.W.Frag} {kvs : List (L2.Key × PyData)} {ws : List (L2.Key × V)} (h : DpKs K B kvs ws) : ∀ {i : Nat} {key : L2.Key} {v : V}, ws[i]? = some (key, v) → ∃ d, kvs[i]? = some (key, d) ∧ Dp K B v d := by
  unfold DpKs at h
  induction h with
  | nil => intro i key v e; simp at e
  | @cons p q ps qs h1 h2 ih =>
    intro i key v e
    cases i with
    | zero => cases e; exact ⟨p.2, by rw [show p = (p.1, p.2) from rfl, h1.1]; rfl, h1.2⟩
    | succ i => exact ih (i := i) e
theorem ri_fkeys {od : Obj} {ws : List (L2.Key × V)} {kvs : List (L2.Key × PyData)} (hp : ρ[k]? = some p) : RI K B ρ H (Itk p od ws) (itFK k od ws kvs) := by
  intro B2 ρ2 κ2 H2 w2 g2 i
  have hp2 := w2.p _ _ hp
  refine ⟨fun ⟨ek, h⟩ => ?_, fun ⟨ek, h⟩ => ?_⟩
  · obtain ⟨r, eH, _⟩ := g2.fkAt hp2 ek
    exact ⟨eH, by rw [← Paired.length r]; exact h⟩
  · obtain ⟨r, eH, _⟩ := g2.fkAt hp2 ek
    refine ⟨⟨eH, by rw [← Paired.length r]; exact h⟩, fun x H3 hy => ?_⟩
    obtain ⟨rfl, key, v, hv, rfl⟩ := hy
    obtain ⟨d, hd, _⟩ := dpks_get r hv
    exact ⟨B2, .d (keyD key), Up.refl, g2, dp_keyD key, ek, key, d, hd, rfl⟩
theorem ri_fitems {od : Obj} {ws : List (L2.Key × V)} {kvs : List (L2.Key × PyData)} (hp : ρ[k]? = some p) : RI K B ρ H (Iti p od ws) (itFI k od ws kvs) := by
  intro B2 ρ2 κ2 H2 w2 g2 i
  have hp2 := w2.p _ _ hp
  refine ⟨fun ⟨ek, h⟩ => ?_, fun ⟨ek, h⟩ => ?_⟩
  · obtain ⟨r, eH, _⟩ := g2.fkAt hp2 ek
    exact ⟨eH, by rw [← Paired.length r]; exact h⟩
  · obtain ⟨r, eH, _⟩ := g2.fkAt hp2 ek
    refine ⟨⟨eH, by rw [← Paired.length r]; exact h⟩, fun x H3 hy => ?_⟩
    obtain ⟨T, key, v, hv, rfl, hT, rfl⟩ := hy
    obtain ⟨d, hd, dv⟩ := dpks_get r hv
    obtain ⟨u4, g4, r4⟩ := new_tup g2 hT (ds := [keyD key, d]) (.cons (dp_keyD key) (.cons dv .nil))
    exact ⟨_, .d (.tuple [keyD key, d]), u4, g4, r4, ek, key, d, hd, rfl⟩
def aFKeys (f : AE) : AI := fun δ κ R => f δ κ fun a κ1 => match a with
  | .c k => ∃ od ws kvs, κ1[k]? = some (.fk od ws kvs) ∧ R (itFK k od ws kvs) κ1
  | _ => False
def aFItems (f : AE) : AI := fun δ κ R => f δ κ fun a κ1 => match a with
  | .c k => ∃ od ws kvs, κ1[k]? = some (.fk od ws kvs) ∧ R (itFI k od ws kvs) κ1
  | _ => False
theorem ia_keys {tge : Expr} (h : PEa K X e t f) : PIa K X tge e (iKeys t) (aFKeys f) :=
  ⟨pi_keys h.pe, fun B ρ δ κ σ H R Q s g hh q => h.sd _ _ _ _ _ _ _ _ s g hh fun B1 ρ1 κ1 H1 a v w1 g1 r1 h1 => by
    split at h1
    · obtain ⟨od, ws, kvs, ek, h1⟩ := h1
      obtain ⟨p, hp, rfl⟩ := r1
      obtain ⟨r, eH, _⟩ := g1.fkAt hp ek
      exact ⟨p, od, rfl, .inl ⟨ws, eH, q _ _ _ _ _ _ w1 g1 (ri_fkeys hp) h1⟩⟩
    · exact h1.elim⟩
theorem ia_items {elts : List Expr} {kk : Nat} {tpos apos cpos : Pos} (h : PEa K X e t f) (hbase : attributeBase e "items" X.env (eval e X.env) = eval e X.env := by rfl) (hline : (apos.endLine == cpos.line) = true := by rfl) :
    PIa K X (.Tuple elts kk tpos) (.Call (.Attribute e "items" apos) [] [] cpos) (iItems t) (aFItems f) :=
  ⟨pi_items h.pe hbase hline, fun B ρ δ κ σ H R Q s g hh q => h.sd _ _ _ _ _ _ _ _ s g hh fun B1 ρ1 κ1 H1 a v w1 g1 r1 h1 => by
    split at h1
    · obtain ⟨od, ws, kvs, ek, h1⟩ := h1
      obtain ⟨p, hp, rfl⟩ := r1
      obtain ⟨r, eH, _⟩ := g1.fkAt hp ek
      exact ⟨p, od, ws, rfl, eH, q _ _ _ _ _ _ w1 g1 (ri_fitems hp) h1⟩
    · exact h1.elim⟩
/-! ### dict comprehensions -/
def DcWd (J : AIt) (ag : AG) (p : AT) (fk fv : AE) (vs : List Nat) (δ : AD) (κ1 : AK) (R : AR) : Prop := ∃ W : Nat → Nat → List (L2.Key × PyData) → AK → Prop, (∃ m, W 0 m [] κ1) ∧ ∀ i m acc κ', W i m acc κ' →
  (J.stop i κ' ∧ R (.c κ'.length) (κ' ++ [.dK acc])) ∨ (J.go i κ' ∧ ∃ N : List (L2.Key × PyData) → AK → Prop, (∀ acc2 κ2, N acc2 κ2 → ∃ m', m' < m ∧ W (i + 1) m' acc2 κ2) ∧ ∀ a, J.yld i κ' a → ag a (wipeA δ vs) κ' fun δ2 κ2 => p δ2 κ2 fun b κ3 =>
    bsel b (fk δ2 κ3 fun y κ4 => fv δ2 κ4 fun z κ5 => ∃ key d, y = .d (keyD key) ∧ z = .d d ∧ acc.length < sizeLine ∧ N (putD acc key d) κ5) (N acc κ3))
@[irreducible] def DcW (J : AIt) (ag : AG) (p : AT) (fk fv : AE) (vs : List Nat) (δ : AD) (κ1 : AK) (R : AR) : Prop := DcWd J ag p fk fv vs δ κ1 R
theorem dcw {J : AIt} {ag : AG} {p : AT} {fk fv : AE} {vs : List Nat} {δ : AD} {κ1 : AK} {R : AR} : DcW J ag p fk fv vs δ κ1 R ↔ DcWd J ag p fk fv vs δ κ1 R := by
  unfold DcW; exact Iff.rfl
def aDc (ai : AI) (ag : AG) (p : AT) (fk fv : AE) (vs : List Nat) : AE := fun δ κ R => ai δ κ fun J κ1 => DcW J ag p fk fv vs δ κ1 R
theorem se_dc {wi : TI} {ai : AI} {tg : TG} {ag : AG} {tt : TT} {pt : AT} {tk tv : TE} {fk fv : AE} {vs : List Nat} (hi : SI K wi ai) (hg : SGw K tg ag vs) (ht : ST K tt pt) (hk : SE K tk fk) (he : SE K tv fv) : SE K (tDc wi tg tt tk tv vs) (aDc ai ag pt fk fv vs) := fun B ρ δ κ σ H R Q s g hh q =>
  hi B ρ δ κ σ H _ _ s g hh fun B1 ρ1 κ1 H1 J Ja w1 g1 ri hlc => by
    obtain ⟨W, ⟨m0, w0⟩, turn⟩ := dcw.mp hlc
    intro D hD
    have q1 := q.later w1
    refine ⟨fun i m H' => ∃ B' ρ' κ' accV acc, Up B1 ρ1 H1 B' ρ' H' ∧ G K B' ρ' κ' H' ∧ H' D = some (.dK accV) ∧ B' D = none ∧ D ∉ ρ' ∧ DpKs K B' acc accV ∧ W i m acc κ', ⟨m0, B1, ρ1, κ1, [], [], Up.refl.off hD, g1.off (g1.fresh hD) (fun z => ?_) (K.up _ _ _ _ _ _ (Up.refl.off hD).n g1.z), upd_same, g1.fresh hD, fun z => ?_, .nil, w0⟩, ?_⟩
    · obtain ⟨i, hi⟩ := List.mem_iff_getElem?.mp z
      exact g1.nin hD hi rfl
    · obtain ⟨i, hi⟩ := List.mem_iff_getElem?.mp z
      exact g1.nin hD hi rfl
    rintro i m H2 ⟨B2, ρ2, κ2, accV, acc, w2, g2, eD, bD, rD, da, hw⟩
    have r := ri B2 ρ2 κ2 H2 w2 g2 i
    rcases turn i m acc κ2 hw with ⟨h1, h2⟩ | ⟨h1, N, hN, h2⟩
    · refine .inl ⟨r.1 h1, ?_⟩
      have g3 : G K B2 (ρ2 ++ [D]) (κ2 ++ [.dK acc]) H2 := by
        have hc : CellOk K B2 ρ2 H2 D (.dK acc) := ⟨bD, _, da, eD⟩
        refine ⟨g2.ex, by rw [List.length_append, List.length_append, g2.len] <;> rfl, fun i j r h1 h2 => ?_, fun i r c h1 h2 => ?_, K.up _ _ _ _ _ _ (w2.newR hD).n g1.z⟩
        · rcases get_snoc h1 with ⟨l1, e1⟩ | ⟨l1, e1⟩
          · rcases get_snoc h2 with ⟨l2, e2⟩ | ⟨l2, e2⟩
            · exact g2.inj i j r e1 e2
            · subst e2; exact absurd (mem_of_get e1) rD
          · rcases get_snoc h2 with ⟨l2, e2⟩ | ⟨l2, e2⟩
            · subst e1; exact absurd (mem_of_get e2) rD
            · rw [l1, l2]
        · rcases get_snoc h1 with ⟨l1, e1⟩ | ⟨l1, e1⟩
          · rw [List.getElem?_append_left (g2.len ▸ l1)] at h2
            exact (g2.at' i r c e1 h2).up up_snoc Or.inl fun o' e => e
          · subst e1
            rcases get_snoc h2 with ⟨l2, e2⟩ | ⟨l2, e2⟩
            · rw [l1, g2.len] at l2; exact absurd l2 (Nat.lt_irrefl _)
            · subst e2; exact hc.up up_snoc Or.inl fun _ e => e
      refine q1 B2 (ρ2 ++ [D]) _ H2 _ _ ⟨w2.s, fun i a h => get_app (w2.p i a h), fun p o z1 z2 z3 => ?_⟩ g3 (rep_new g2) h2
      obtain ⟨y1, y2, y3⟩ := w2.f p o z1 z2 z3
      refine ⟨y1, y2, fun z => ?_⟩
      rcases List.mem_append.mp z with z | z
      · exact y3 z
      · exact ne_of_none z1 hD (by simpa using z)
    · obtain ⟨hgo, hy⟩ := r.2 h1
      refine .inr ⟨hgo, fun H' => ∃ B' ρ' κ' accV acc, Up B1 ρ1 H1 B' ρ' H' ∧ G K B' ρ' κ' H' ∧ H' D = some (.dK accV) ∧ B' D = none ∧ D ∉ ρ' ∧ DpKs K B' acc accV ∧ N acc κ', ?_, fun x H3 hx => ?_⟩
      · rintro H' ⟨B', ρ', κ', accV', acc', z1, z2, z3, z4, z5, z6, hn⟩
        obtain ⟨m', hm, hw'⟩ := hN _ _ hn
        exact ⟨m', hm, B', ρ', κ', accV', acc', z1, z2, z3, z4, z5, z6, hw'⟩
      · obtain ⟨B3, a, w3, g3, ra, ya⟩ := hy x H3 hx
        have sw : S K B3 ρ2 (wipeA δ vs) (L2.wipe σ vs) := (s.up ((w1.trans w2).trans w3).g).wipe vs
        refine hg _ _ _ _ _ _ _ _ _ _ sw g3 ra (h2 a ya) fun B4 ρ4 δ4 κ4 σ4 H4 w4 s4 g4 h4 e4 => ⟨by rw [e4, wipe_wipe], ?_⟩
        refine ht _ _ _ _ _ _ _ _ s4 g4 h4 fun B5 ρ5 κ5 H5 b w5 g5 h5 => ?_
        have w25 := (w3.trans w4).trans w5
        obtain ⟨e5, b5, r5⟩ := w25.f D _ eD (.inl bD) rD
        have b5 : B5 D = none := b5.elim id fun ⟨ws, z⟩ => by cases z
        cases b with
        | false =>
          refine iteF ⟨B5, ρ5, κ5, accV, acc, w2.trans w25, g5, e5, b5, r5, DpKs.up w25.s da, h5⟩
        | true =>
          refine iteT (hk _ _ _ _ _ _ _ _ (s4.up w5.g) g5 h5 fun B6 ρ6 κ6 H6 a6 v6 w6 g6 r6 h6 => he _ _ _ _ _ _ _ _ (s4.up (w5.trans w6).g) g6 h6 fun B7 ρ7 κ7 H7 a7 v7 w7 g7 r7 h7 => ?_)
          obtain ⟨key, d, rfl, rfl, hl, hn⟩ := h7
          have ey := rep_key r6
          have w67 := w6.trans w7
          obtain ⟨e7, b7, r7'⟩ := w67.f D _ e5 (.inl b5) r5
          have b7 : B7 D = none := b7.elim id fun ⟨ws, z⟩ => by cases z
          have w27 := w25.trans w67
          have da7 := DpKs.up w27.s da
          refine ⟨accV, key, ey, e7, by rw [← Paired.length da7]; exact hl, B7, ρ7, κ7, L2.putK accV key v7, putD acc key d, (w2.trans w27).off hD, g7.off b7 r7' (K.up _ _ _ _ _ _ ((w2.trans w27).off hD).n g1.z), upd_same, b7, r7', dpks_put da7 r7, hn⟩
theorem ea_dc {kx vx tge iter : Expr} {ifs : List Expr} {scope : Scope} {own : List (Str × Nat)} {wi : TI} {ai : AI} {tg : TG} {ag : AG} {tt : TT} {pt : AT} {tk tv : TE} {fk fv : AE} (hc : X.calm = true) (hN : X.N.Nodup) (hi : PIa K X tge iter wi ai) (ok : BlkOk X.N X.env.scope scope own)
    (hg : ∀ (s : Shared) (H : Hp) (C : Addr) (cl : List (Str × Addr)) (fp : List Addr), PG (X.blk s H scope (compEnvC scope cl C X.env) fp) tge tg) (hgw : SGw K tg ag (own.map (·.2)))
    (ht : ∀ (s : Shared) (H : Hp) (C : Addr) (cl : List (Str × Addr)) (fp : List Addr), PTsa K (X.blk s H scope (compEnvC scope cl C X.env) fp) ifs tt pt)
    (hk : ∀ (s : Shared) (H : Hp) (C : Addr) (cl : List (Str × Addr)) (fp : List Addr), PEa K (X.blk s H scope (compEnvC scope cl C X.env) fp) kx tk fk)
    (he : ∀ (s : Shared) (H : Hp) (C : Addr) (cl : List (Str × Addr)) (fp : List Addr), PEa K (X.blk s H scope (compEnvC scope cl C X.env) fp) vx tv fv) (hs : ∀ x, foldedSetIterable iter X.env x = pure x := by intro _; rfl) :
    PEa K X (.DictComp kx vx [⟨tge, iter, ifs, 0⟩] scope pos) (tDc wi tg tt tk tv (own.map (·.2))) (aDc ai ag pt fk fv (own.map (·.2))) :=
  ⟨pe_dc hc hN hi.pi ok hg (fun s H C cl fp => (ht s H C cl fp).pt) (fun s H C cl fp => (hk s H C cl fp).pe) (fun s H C cl fp => (he s H C cl fp).pe) hs, se_dc hi.sd hgw (ht ({} : Shared) (fun _ => none) 0 [] []).sd (hk ({} : Shared) (fun _ => none) 0 [] []).sd (he ({} : Shared) (fun _ => none) 0 [] []).sd⟩
/-- a dict comprehension over the entries of a walked dict -/
theorem dc_f {k : Nat} {od : Obj} {ws : List (L2.Key × V)} {kvs : List (L2.Key × PyData)} {ag : AG} {pt : AT} {fk fv : AE} {vs : List Nat} {κ1 : AK} {R : AR} (Pv : Nat → List (L2.Key × PyData) → AK → Prop) (h0 : Pv 0 [] κ1) (hk : ∀ i acc κ', Pv i acc κ' → κ'[k]? = some (.fk od ws kvs)) (hd : ∀ acc κ', Pv kvs.length acc κ' → R (.c κ'.length) (κ' ++ [.dK acc]))
    (hs : ∀ i key d acc κ', kvs[i]? = some (key, d) → Pv i acc κ' → ag (.d (.tuple [keyD key, d])) (wipeA δ vs) κ' fun δ2 κ2 => pt δ2 κ2 fun b κ3 => bsel b (fk δ2 κ3 fun y κ4 => fv δ2 κ4 fun z κ5 => ∃ key d, y = .d (keyD key) ∧ z = .d d ∧ acc.length < sizeLine ∧ Pv (i + 1) (putD acc key d) κ5) (Pv (i + 1) acc κ3)) : DcW (itFI k od ws kvs) ag pt fk fv vs δ κ1 R := by
  refine dcw.mpr ⟨fun i m acc κ' => m = kvs.length - i ∧ i ≤ kvs.length ∧ Pv i acc κ', ⟨_, rfl, Nat.zero_le _, h0⟩, ?_⟩
  rintro i m acc κ' ⟨rfl, hi, p⟩
  by_cases hlt : i < kvs.length
  · refine .inr ⟨⟨hk _ _ _ p, hlt⟩, Pv (i + 1), fun _ _ q => ⟨kvs.length - (i + 1), by omega, rfl, hlt, q⟩, ?_⟩
    rintro a ⟨_, key, d, hx, rfl⟩
    exact hs i key d acc κ' hx p
  · have e : i = kvs.length := by omega
    subst e
    exact .inl ⟨⟨hk _ _ _ p, Nat.le_refl _⟩, hd _ _ p⟩
/-- a for over the keys of a walked dict -/
theorem for_f {k : Nat} {od : Obj} {ws : List (L2.Key × V)} {kvs : List (L2.Key × PyData)} {ag : AG} {f : AS} {A : AEnds} {n : Nat} {δ : AD} {κ1 : AK} (Pv : Nat → AD → AK → Prop) (h0 : Pv 0 δ κ1) (hk : ∀ i δ' κ', Pv i δ' κ' → κ'[k]? = some (.fk od ws kvs)) (hd : ∀ δ' κ', Pv kvs.length δ' κ' → n ≤ κ'.length → A.nx δ' κ')
    (hs : ∀ i key d δ' κ', kvs[i]? = some (key, d) → Pv i δ' κ' → n ≤ κ'.length → ag (.d (keyD key)) δ' κ' fun δ2 κ2 => f { n := n, nx := Pv (i + 1), ct := Pv (i + 1), bk := A.nx, rt := A.rt } δ2 κ2) : ForW (itFK k od ws kvs) ag f A n δ κ1 := by
  refine ⟨fun i m δ' κ' => m = kvs.length - i ∧ i ≤ kvs.length ∧ Pv i δ' κ', ⟨_, rfl, Nat.zero_le _, h0⟩, ?_⟩
  rintro i m δ' κ' ⟨rfl, hi, p⟩ hn
  by_cases hlt : i < kvs.length
  · refine .inr ⟨⟨hk _ _ _ p, hlt⟩, Pv (i + 1), fun _ _ q => ⟨kvs.length - (i + 1), by omega, rfl, hlt, q⟩, ?_⟩
    rintro a ⟨_, key, d, hx, rfl⟩
    exact hs i key d δ' κ' hx p hn
  · have e : i = kvs.length := by omega
    subst e
    exact .inl ⟨⟨hk _ _ _ p, Nat.le_refl _⟩, hd _ _ p hn⟩
/-! ### sorted lists of tuples -/
def SortT (ds : List PyData) (R : PyData → Prop) : Prop := ∃ (ks : List (List L2.Key)) (shape : Nat → Bool), ds = ks.map (fun k => .tuple (k.map keyD)) ∧ ks.length < 64 ∧ (∀ k ∈ ks, okSh shape 0 k ∧ k ≠ []) ∧ ∀ ys : List (List L2.Key), ys.Perm ks → SrtKs ys → R (.list (ys.map fun k => .tuple (k.map keyD)))
def aSortT : List AV → AK → AR → Prop := fun as κ R => match as with
  | [.d (.list ds)] => SortT ds fun x => R (.d x) κ
  | [.c k] => match κ[k]? with
    | some (.ld ds) => SortT ds fun x => R (.d x) κ
    | _ => False
  | _ => False
theorem sortT_ok {Q : VK} {R : AR} {ds : List PyData} {vs : List V} {p : Addr} (g : G K B ρ κ H) (s1 : SqL K H p vs) (d1 : DpAll K B vs ds) (h : SortT ds fun x => R (.d x) κ) (q : Nx K B ρ H R Q) : rSortLT K [.ref p] H Q := by
  obtain ⟨ks, shape, rfl, hl, hsh, h⟩ := h
  have split : ∀ {ks : List (List L2.Key)} {vs : List V}, DpAll K B vs (ks.map fun k => .tuple (k.map keyD)) → ∃ l : List (List L2.Key × Addr), l.map (·.1) = ks ∧ vs = l.map (fun x => V.ref x.2) ∧ ∀ x ∈ l, SqT K H x.2 (x.1.map kV) ∧ Dp K B (.ref x.2) (.tuple (x.1.map keyD)) := by
    intro ks
    induction ks with
    | nil => intro vs h; cases h; exact ⟨[], rfl, rfl, fun x hx => by cases hx⟩
    | cons k ks ih =>
      intro vs h
      cases h with
      | @cons v _ vs' _ h1 h2 =>
        obtain ⟨l, e1, e2, e3⟩ := ih h2
        obtain ⟨b, xs, rfl, st, da⟩ := of_tupG g (v := v) (ρ := ρ) (ds := k.map keyD) h1
        have := dpa_key_eq da
        subst this
        exact ⟨(k, b) :: l, by rw [List.map_cons, e1], by rw [List.map_cons, e2], fun x hx => (List.mem_cons.mp hx).elim (fun e => e ▸ ⟨st, h1⟩) (e3 x)⟩
  obtain ⟨l, e1, e2, e3⟩ := split d1
  subst e2
  have hll : l.length = ks.length := by rw [← e1, List.length_map]
  refine ⟨p, l, shape, rfl, s1, fun x hx => ⟨(e3 x hx).1, hsh x.1 (by rw [← e1]; exact List.mem_map.mpr ⟨x, hx, rfl⟩)⟩, by omega, fun l' p' hp hs hn => ?_⟩
  have da : ∀ {l' : List (List L2.Key × Addr)}, (∀ x ∈ l', Dp K B (.ref x.2) (.tuple (x.1.map keyD))) → DpAll K B (l'.map fun x => V.ref x.2) (l'.map fun x => .tuple (x.1.map keyD)) := by
    intro l'
    induction l' with
    | nil => intro _; exact .nil
    | cons x l' ih => intro hh; exact .cons (hh x (List.mem_cons_self ..)) (ih fun y hy => hh y (List.mem_cons_of_mem _ hy))
  obtain ⟨u, g2, r⟩ := new_lst g hn (da fun x hx => (e3 x (hp.mem_iff.mp hx)).2)
  refine q _ _ _ _ _ _ u g2 r ?_
  have := h (l'.map (·.1)) ((hp.map _).trans (by rw [e1])) hs
  rw [List.map_map] at this
  exact this
theorem ca_sortT (hK : X.K = K := by rfl) : CallA K X (.builtin "sorted") (rSortLT K) aSortT := by
  obtain ⟨K, Kn, KZ, Ku⟩ := K
  change X.K = K at hK
  subst hK
  refine ⟨cr_sortedLT, fun B ρ κ H xs as R Q g rs h q => ?_⟩
  unfold aSortT at h
  split at h
  · obtain ⟨x, rfl, r⟩ := reps1 rs
    obtain ⟨p, vs, rfl, s1, d1⟩ := of_listG g r
    exact sortT_ok g s1 d1 h q
  · rename_i k
    obtain ⟨x, rfl, r⟩ := reps1 rs
    obtain ⟨p, hp, rfl⟩ := r
    split at h
    · rename_i ds ek
      obtain ⟨p', hp', _, vs, r, eH⟩ := g.cell ek
      rw [hp] at hp'; cases hp'
      exact sortT_ok g (.inl (.inl eH)) r h q
    · exact h.elim
  · exact h.elim
end Ab
set_option Elab.async false
set_option linter.all false
set_option maxRecDepth 100000
set_option maxHeartbeats 4000000
/-! Ab26: methods and new objects whose cells refer to one another -/
namespace Ab
open PySem L2
open PyProof.Rows (envOfC)
variable {K : Frg} {B B' B2 H H' H2 : Hp} {ρ ρ' ρ2 : List Addr} {κ κ' : AK} {δ : AD} {σ : L2.St} {p : Addr} {k : Nat} {v x y z : V} {a b c : AV}
variable {X : Cx} {e e2 o : Expr} {t u : TE} {f f2 : AE} {pos : Pos} {W : WX} {E' : AEx} {ta : TA} {fa : AA} {es : List Expr}
def aMethX (C : Addr) (m : Str) (F : FSp) (fo : AE) (fa : AA) : AE := fun δ κ R => fo δ κ fun a κ1 => match a with
  | .c k => ∃ fs, κ1[k]? = some (.ins C fs) ∧ lookA m fs = none ∧ fa δ κ1 fun as κ2 => callX F (fun _ _ => False) (.c k :: as) κ2 R
  | _ => False
theorem se_methX {C : Addr} {m : Str} {F : FSp} {E : XK} (ho : SE K t f) (ha : SA K ta fa) : SE K (tMeth C m (spA K F) [] E t ta) (aMethX C m F f fa) := fun B ρ δ κ σ H R Q s g hh q =>
  ho B ρ δ κ σ H _ _ s g hh fun B1 ρ1 κ1 H1 a x u1 g1 r1 h1 => by
    split at h1
    · rename_i j
      obtain ⟨fs, ek, ln, h1⟩ := h1
      obtain ⟨p, hp, rfl⟩ := id r1
      obtain ⟨dx, ws, r, eH, _⟩ := g1.insAt hp ek
      refine ⟨p, dx, ws, rfl, eH, repKs_none r ln, ha _ _ _ _ _ _ _ _ (s.up u1.g) g1 h1 fun B2 ρ2 κ2 H2 as vs u2 g2 r2 h2 => ?_⟩
      show spA K F (.ref p :: (vs ++ [])) H2 Q E
      rw [List.append_nil]
      exact callX_sd g2 (.cons (r1.up u2.g) r2) h2 (q.later (u1.trans u2)) fun _ _ _ _ _ _ _ _ h _ => h.elim
    · exact h1.elim
section
variable {l : Nat} {fm C : Addr} {fd : FuncData} {ps : List Str} {F : FSp} {m : Str} {apos : Pos} {pl : Sem Bool}
theorem ea_methX (Fo : FnOk X.prog X.w X.K X.mg X.base CX0 l fm fd ps (spA K F)) (hr : Room l X.A) (hc : Cls K C) (hm : Meth K C m fm) (hb : Binds K fd ps []) (ho : PEa K X o t f) (ha : PAa K X (e :: es) ta fa)
    (hst : starEach (e :: es) X.env = (false, eval e X.env) :: starEach es X.env := by rfl) (hpl : (backTo pos (starEach es X.env)).any (·.1) = false := by rfl)
    (ht : eval (.Call (.Attribute o m apos) (e :: es) [] pos) X.env = (do
      let ov ← eval o X.env
      standAt apos.atName
      let (f, first) ← holding [ov] (getMethod ov m pl)
      callWith pos f first (backTo pos (starEach (e :: es) X.env)) (backToKw pos (keywordEach [] X.env))) := by rfl) (hK : X.K = K := by rfl) :
    PEa K X (.Call (.Attribute o m apos) (e :: es) [] pos) (tMeth C m (spA K F) [] E0 t ta) (aMethX C m F f fa) := by
  obtain ⟨K, Kn, KZ, Ku⟩ := K
  change X.K = K at hK
  subst hK
  exact ⟨pe_meth (pl := pl) ho.pe hc hm Fo hr hb .nil pass0 ha.pa hst hpl ht, se_methX ho.sd ha.sd⟩
theorem ea_meth0X (Fo : FnOk X.prog X.w X.K X.mg X.base CX0 l fm fd ps (spA K F)) (hr : Room l X.A) (hc : Cls K C) (hm : Meth K C m fm) (hb : Binds K fd ps []) (ho : PEa K X o t f)
    (ht : eval (.Call (.Attribute o m apos) [] [] pos) X.env = (do
      let ov ← eval o X.env
      standAt apos.atName
      let (f, first) ← holding [ov] (getMethod ov m pl)
      callWith pos f first (backTo pos (starEach [] X.env)) (backToKw pos (keywordEach [] X.env))) := by rfl) (hK : X.K = K := by rfl) :
    PEa K X (.Call (.Attribute o m apos) [] [] pos) (tMeth C m (spA K F) [] E0 t tNil) (aMethX C m F f aNil) := by
  obtain ⟨K, Kn, KZ, Ku⟩ := K
  change X.K = K at hK
  subst hK
  exact ⟨pe_meth0 (pl := pl) ho.pe hc hm Fo hr hb .nil pass0 ht, se_methX ho.sd fun B ρ δ κ σ H R Q s g h q => q _ _ _ _ _ _ Up.refl g .nil h⟩
end
def aMakeX (C : Addr) (F : FSp) (fa : AA) : AE := fun δ κ R => fa δ κ fun as κ1 => callX F (fun _ _ => False) (.c κ1.length :: as) (κ1 ++ [.ins C []]) fun a κ2 => a = .d .none ∧ R (.c κ1.length) κ2
theorem se_makeX {C : Addr} {F : FSp} {E : XK} (ha : SA K ta fa) : SE K (tMake C (spA K F) [] E ta) (aMakeX C F fa) := fun B ρ δ κ σ H R Q s g hh q =>
  ha B ρ δ κ σ H _ _ s g hh fun B1 ρ1 κ1 H1 as vs u1 g1 r1 h1 => by
    intro x dx hx hdx hne
    show spA K F (.ref x :: (vs ++ [])) _ _ E
    rw [List.append_nil]
    have nin : ∀ {q : Addr}, H1 q = none → q ∉ ρ1 := fun {q} hq z => by
      obtain ⟨i, hi⟩ := List.mem_iff_getElem?.mp z
      exact g1.nin hq hi rfl
    have g2 : G K B1 ρ1 κ1 (upd H1 dx (.own x)) := g1.off (g1.fresh hdx) (nin hdx) (K.up _ _ _ _ _ _ (Up.refl.off hdx).n g1.z)
    have hx2 : (upd H1 dx (.own x)) x = none := by rw [upd_ne (Ne.symm hne)]; exact hx
    have g3 : G K B1 (ρ1 ++ [x]) (κ1 ++ [.ins C []]) (upd (upd H1 dx (.own x)) x (.ins C dx [])) := g2.alloc hx2 (show CellOk K B1 ρ1 _ x (.ins C []) from ⟨g1.fresh hx, dx, [], .nil, upd_same⟩)
    have up3 : Up B1 ρ1 H1 B1 (ρ1 ++ [x]) (upd (upd H1 dx (.own x)) x (.ins C dx [])) := ⟨Same.refl B1, fun _ _ h => get_app h, fun q o' h1 h2 h3 => by
      have n1 := ne_of_none h1 hx
      have n2 := ne_of_none h1 hdx
      rw [upd_ne n1, upd_ne n2]
      refine ⟨h1, h2, fun z => ?_⟩
      rcases List.mem_append.mp z with z | z
      · exact h3 z
      · exact n1 (by simpa using z)⟩
    have rx : Rep K B1 (ρ1 ++ [x]) (.c κ1.length) (.ref x) := rep_new g1
    refine callX_sd g3 (.cons rx (Reps.up up3.g r1)) h1 ?_ fun _ _ _ _ _ _ _ _ h _ => h.elim
    rintro B4 ρ4 κ4 H4 a v w4 g4 r4 ⟨rfl, hR⟩
    exact ⟨r4.non, q _ _ _ _ _ _ ((u1.trans up3).trans w4) g4 (rx.up w4.g) hR⟩
section
variable {l : Nat} {fI C : Addr} {fd : FuncData} {ps : List Str} {F : FSp} {x : Str} {q : Pos}
theorem ea_makeX (M : Mk K C fI) (Fo : FnOk X.prog X.w X.K X.mg X.base CX0 l fI fd ps (spA K F)) (hr : Room (l + 1) X.A) (hg : Gl X x) (hm : X.mg x = some (.ref C)) (hb : Binds K fd ps []) (ha : PAa K X (e :: es) ta fa)
    (hdb : (x == ("__debug__" : Str)) = false := by decide) (he : starEach (e :: es) X.env = (false, eval e X.env) :: starEach es X.env := by rfl) (hpl : (backTo pos (starEach es X.env)).any (·.1) = false := by rfl) (hK : X.K = K := by rfl) :
    PEa K X (.Call (.Name x q) (e :: es) [] pos) (tMake C (spA K F) [] E0 ta) (aMakeX C F fa) := by
  obtain ⟨K, Kn, KZ, Ku⟩ := K
  change X.K = K at hK
  subst hK
  exact ⟨pe_make M Fo hr hg hm hb .nil pass0 ha.pa hdb he hpl, se_makeX ha.sd⟩
end
def aMethRX (C : Addr) (m : Str) (F : FSp) (E' : AEx) (fo : AE) (fa : AA) : AE := fun δ κ R => fo δ κ fun a κ1 => match a with
  | .c k => ∃ fs, κ1[k]? = some (.ins C fs) ∧ lookA m fs = none ∧ fa δ κ1 fun as κ2 => callX F E' (.c k :: as) κ2 R
  | _ => False
theorem se_methRX {C : Addr} {m : Str} {F : FSp} (ho : SE K t f) (ha : SA K ta fa) (hx : HX K E' W) : SE K (tMeth C m (spA K F) [] (ExOf W) t ta) (aMethRX C m F E' f fa) := fun B ρ δ κ σ H R Q s g hh q =>
  ho B ρ δ κ σ H _ _ s g hh fun B1 ρ1 κ1 H1 a x u1 g1 r1 h1 => by
    split at h1
    · rename_i j
      obtain ⟨fs, ek, ln, h1⟩ := h1
      obtain ⟨p, hp, rfl⟩ := id r1
      obtain ⟨dx, ws, r, eH, _⟩ := g1.insAt hp ek
      refine ⟨p, dx, ws, rfl, eH, repKs_none r ln, ha _ _ _ _ _ _ _ _ (s.up u1.g) g1 h1 fun B2 ρ2 κ2 H2 as vs u2 g2 r2 h2 => ?_⟩
      show spA K F (.ref p :: (vs ++ [])) H2 Q _
      rw [List.append_nil]
      exact callX_sd g2 (.cons (r1.up u2.g) r2) h2 (q.later (u1.trans u2)) fun B' ρ' κ' H' x cls d g h r => hx _ _ _ _ _ _ _ g h r
    · exact h1.elim
section
variable {l : Nat} {fm C : Addr} {fd : FuncData} {ps : List Str} {F : FSp} {m : Str} {apos : Pos} {pl : Sem Bool}
theorem ea_methRX (Fo : FnOk X.prog X.w X.K X.mg X.base (L2.CX X.prog X.w) l fm fd ps (spA X.K F)) (hr : Room l X.A) (tk : Takes X W) (hx : HX K E' W) (hc : Cls K C) (hm : Meth K C m fm) (hb : Binds K fd ps []) (ho : PEa K X o t f) (ha : PAa K X (e :: es) ta fa)
    (hst : starEach (e :: es) X.env = (false, eval e X.env) :: starEach es X.env := by rfl) (hpl : (backTo pos (starEach es X.env)).any (·.1) = false := by rfl)
    (ht : eval (.Call (.Attribute o m apos) (e :: es) [] pos) X.env = (do
      let ov ← eval o X.env
      standAt apos.atName
      let (f, first) ← holding [ov] (getMethod ov m pl)
      callWith pos f first (backTo pos (starEach (e :: es) X.env)) (backToKw pos (keywordEach [] X.env))) := by rfl) (hK : X.K = K := by rfl) :
    PEa K X (.Call (.Attribute o m apos) (e :: es) [] pos) (tMeth C m (spA K F) [] (ExOf W) t ta) (aMethRX C m F E' f fa) := by
  obtain ⟨K, Kn, KZ, Ku⟩ := K
  change X.K = K at hK
  subst hK
  exact ⟨pe_meth (pl := pl) ho.pe hc hm Fo hr hb .nil (passR tk) ha.pa hst hpl ht, se_methRX ho.sd ha.sd hx⟩
theorem ea_methR0X (Fo : FnOk X.prog X.w X.K X.mg X.base (L2.CX X.prog X.w) l fm fd ps (spA X.K F)) (hr : Room l X.A) (tk : Takes X W) (hx : HX K E' W) (hc : Cls K C) (hm : Meth K C m fm) (hb : Binds K fd ps []) (ho : PEa K X o t f)
    (ht : eval (.Call (.Attribute o m apos) [] [] pos) X.env = (do
      let ov ← eval o X.env
      standAt apos.atName
      let (f, first) ← holding [ov] (getMethod ov m pl)
      callWith pos f first (backTo pos (starEach [] X.env)) (backToKw pos (keywordEach [] X.env))) := by rfl) (hK : X.K = K := by rfl) :
    PEa K X (.Call (.Attribute o m apos) [] [] pos) (tMeth C m (spA K F) [] (ExOf W) t tNil) (aMethRX C m F E' f aNil) := by
  obtain ⟨K, Kn, KZ, Ku⟩ := K
  change X.K = K at hK
  subst hK
  exact ⟨pe_meth0 (pl := pl) ho.pe hc hm Fo hr hb .nil (passR tk) ht, se_methRX ho.sd (fun B ρ δ κ σ H R Q s g h q => q _ _ _ _ _ _ Up.refl g .nil h) hx⟩
end
def aMakeRX (C : Addr) (F : FSp) (E' : AEx) (fa : AA) : AE := fun δ κ R => fa δ κ fun as κ1 => callX F E' (.c κ1.length :: as) (κ1 ++ [.ins C []]) fun a κ2 => a = .d .none ∧ R (.c κ1.length) κ2
theorem se_makeRX {C : Addr} {F : FSp} (ha : SA K ta fa) (hx : HX K E' W) : SE K (tMake C (spA K F) [] (ExOf W) ta) (aMakeRX C F E' fa) := fun B ρ δ κ σ H R Q s g hh q =>
  ha B ρ δ κ σ H _ _ s g hh fun B1 ρ1 κ1 H1 as vs u1 g1 r1 h1 => by
    intro x dx hx' hdx hne
    show spA K F (.ref x :: (vs ++ [])) _ _ _
    rw [List.append_nil]
    have nin : ∀ {q : Addr}, H1 q = none → q ∉ ρ1 := fun {q} hq z => by
      obtain ⟨i, hi⟩ := List.mem_iff_getElem?.mp z
      exact g1.nin hq hi rfl
    have g2 : G K B1 ρ1 κ1 (upd H1 dx (.own x)) := g1.off (g1.fresh hdx) (nin hdx) (K.up _ _ _ _ _ _ (Up.refl.off hdx).n g1.z)
    have hx2 : (upd H1 dx (.own x)) x = none := by rw [upd_ne (Ne.symm hne)]; exact hx'
    have g3 : G K B1 (ρ1 ++ [x]) (κ1 ++ [.ins C []]) (upd (upd H1 dx (.own x)) x (.ins C dx [])) := g2.alloc hx2 (show CellOk K B1 ρ1 _ x (.ins C []) from ⟨g1.fresh hx', dx, [], .nil, upd_same⟩)
    have up3 : Up B1 ρ1 H1 B1 (ρ1 ++ [x]) (upd (upd H1 dx (.own x)) x (.ins C dx [])) := ⟨Same.refl B1, fun _ _ h => get_app h, fun q o' h1 h2 h3 => by
      have n1 := ne_of_none h1 hx'
      have n2 := ne_of_none h1 hdx
      rw [upd_ne n1, upd_ne n2]
      refine ⟨h1, h2, fun z => ?_⟩
      rcases List.mem_append.mp z with z | z
      · exact h3 z
      · exact n1 (by simpa using z)⟩
    have rx : Rep K B1 (ρ1 ++ [x]) (.c κ1.length) (.ref x) := rep_new g1
    refine callX_sd g3 (.cons rx (Reps.up up3.g r1)) h1 ?_ fun B' ρ' κ' H' x cls d g h r => hx _ _ _ _ _ _ _ g h r
    rintro B4 ρ4 κ4 H4 a v w4 g4 r4 ⟨rfl, hR⟩
    exact ⟨r4.non, q _ _ _ _ _ _ ((u1.trans up3).trans w4) g4 (rx.up w4.g) hR⟩
section
variable {l : Nat} {fI C : Addr} {fd : FuncData} {ps : List Str} {F : FSp} {x : Str} {q : Pos}
theorem ea_makeRX (M : Mk K C fI) (Fo : FnOk X.prog X.w X.K X.mg X.base (L2.CX X.prog X.w) l fI fd ps (spA X.K F)) (hr : Room (l + 1) X.A) (tk : Takes X W) (hx : HX K E' W) (hg : Gl X x) (hm : X.mg x = some (.ref C)) (hb : Binds K fd ps []) (ha : PAa K X (e :: es) ta fa)
    (hdb : (x == ("__debug__" : Str)) = false := by decide) (he : starEach (e :: es) X.env = (false, eval e X.env) :: starEach es X.env := by rfl) (hpl : (backTo pos (starEach es X.env)).any (·.1) = false := by rfl) (hK : X.K = K := by rfl) :
    PEa K X (.Call (.Name x q) (e :: es) [] pos) (tMake C (spA K F) [] (ExOf W) ta) (aMakeRX C F E' fa) := by
  obtain ⟨K, Kn, KZ, Ku⟩ := K
  change X.K = K at hK
  subst hK
  exact ⟨pe_make M Fo hr hg hm hb .nil (passR tk) ha.pa hdb he hpl, se_makeRX ha.sd hx⟩
end

end Ab
set_option Elab.async false
set_option linter.all false
set_option maxRecDepth 100000
set_option maxHeartbeats 4000000
/-! Ab27: try .. except x: without a name -/
namespace Ab
open PySem L2
open PyProof.Rows (envOfC)
variable {B B' B2 H H' H2 : Hp} {ρ ρ' ρ2 : List Addr} {κ κ' : AK} {δ : AD} {σ : L2.St} {p : Addr} {k : Nat} {v x y z : V} {a b c : AV}
variable {X : Cx} {e e2 o : Expr} {t u : TE} {f f2 : AE} {pos : Pos} {W : WX}
variable {K : Frg}
def exTryO (N : Nat) (exm : Str → Option Bool) (fs : AS) (Eo : AEx) (A : AEnds) : AEx := fun xa κ => ∃ b, exm xa.cls = some b ∧ (b = true → fs A (List.replicate N none) κ) ∧ (b = false → Eo xa κ)
def aTryO (N : Nat) (exm : Str → Option Bool) (fb : AEx → AS) (fs : AS) (Eo : AEx) : AS := fun A δ κ => fb (exTryO N exm fs Eo A) A δ κ
section
variable {x : Str} {c : Value} {body suite : List Stmt} {b₀ : Stmt} {np pos' : Pos} {Wout : WX} {Eo : AEx} {exm : Str → Option Bool} {fb : AEx → AS} {fs : AS} {tb : WX → (n : Nat) → (Z : Hp → List Addr → Hp → Prop) → (∀ B ρ H B' ρ' H', UpN n B ρ H B' ρ' H' → Z B ρ H → Z B' ρ' H') → TS} {ts : Addr → Value → Option Addr → (n : Nat) → (Z : Hp → List Addr → Hp → Prop) → (∀ B ρ H B' ρ' H', UpN n B ρ H B' ρ' H' → Z B ρ H → Z B' ρ' H') → TS}
theorem sa_tryO (hs : X.stack = X.env :: X.outer) (hf : X.env.frame = some X.env.locals) (hc : Names X x c) (tk : Takes X Wout) (hxo : HX K Eo Wout)
    (hm : ∀ nm cls b, exm nm = some b → PySem.W.nsIn X.K mainGlobals nm = some (some cls) → PySem.W.exmOne X.K cls c = some b)
    (hb : ∀ (W : WX) (pn : List (Addr × Obj)) (xe : Value → Shared → Prop) (n : Nat) (Z : Hp → List Addr → Hp → Prop) (up : ∀ B ρ H B' ρ' H', UpN n B ρ H B' ρ' H' → Z B ρ H → Z B' ρ' H') (E' : AEx), Takes (X.tr pn xe) W → PassesOwn (model X.prog X.w) X.A X.env xe → HX ⟨K.K, n, Z, up⟩ E' W →
      PSsa ⟨K.K, n, Z, up⟩ (X.tr pn xe) body (tb W n Z up) (fb E'))
    (hsu : ∀ (a : Addr) (oe : Obj) (cls : Value) (d : Option Addr) (pn : List (Addr × Obj)) (n : Nat) (Z : Hp → List Addr → Hp → Prop) (up : ∀ B ρ H B' ρ' H', UpN n B ρ H B' ρ' H' → Z B ρ H → Z B' ρ' H'), Zc cls d oe → (∃ vs, oe.data = .fields vs) →
      PSsa ⟨K.K, n, Z, up⟩ (X.suite a ((a, oe) :: pn)) (b₀ :: suite) (ts a cls d n Z up) fs) (hK : X.K = K.K := by rfl) :
    PSa K X (.Try body [.ExceptHandler (some (.Name x np)) none (b₀ :: suite) pos'] [] [] pos)
      (fun D σ H => ∃ (n : Nat) (Z : Hp → List Addr → Hp → Prop) (up : ∀ B ρ H B' ρ' H', UpN n B ρ H B' ρ' H' → Z B ρ H → Z B' ρ' H') (E' : AEx), HX ⟨K.K, n, Z, up⟩ E' (lenW X.N.length (wOnly X.K c (fun a cls d D σ H => ∃ (n : Nat) (Z : Hp → List Addr → Hp → Prop) (up : ∀ B ρ H B' ρ' H', UpN n B ρ H B' ρ' H' → Z B ρ H → Z B' ρ' H'), ts a cls d n Z up D σ H) Wout D)) ∧
        tb (lenW X.N.length (wOnly X.K c (fun a cls d D σ H => ∃ (n : Nat) (Z : Hp → List Addr → Hp → Prop) (up : ∀ B ρ H B' ρ' H', UpN n B ρ H B' ρ' H' → Z B ρ H → Z B' ρ' H'), ts a cls d n Z up D σ H) Wout D)) n Z up D σ H)
      (aTryO X.N.length exm fb fs Eo) := by
  refine ⟨ps_try_only (tb := fun W D σ H => ∃ (n : Nat) (Z : Hp → List Addr → Hp → Prop) (up : ∀ B ρ H B' ρ' H', UpN n B ρ H B' ρ' H' → Z B ρ H → Z B' ρ' H') (E' : AEx), HX ⟨K.K, n, Z, up⟩ E' (lenW X.N.length W) ∧ tb (lenW X.N.length W) n Z up D σ H)
    (ts := fun a cls d D σ H => ∃ (n : Nat) (Z : Hp → List Addr → Hp → Prop) (up : ∀ B ρ H B' ρ' H', UpN n B ρ H B' ρ' H' → Z B ρ H → Z B' ρ' H'), ts a cls d n Z up D σ H) hs hf hc tk
    (fun W pn xe tk2 po => ⟨fun pins s σ H D I ⟨n, Z, up, E', hx, h⟩ => (hb (lenW X.N.length W) pn xe n Z up E' (takes_len tk2) po hx).ps.run pins s σ H D I h⟩)
    (fun a oe cls d pn hz hd => ⟨fun pins s σ H D I ⟨n, Z, up, h⟩ => (hsu a oe cls d pn n Z up hz hd).ps.run pins s σ H D I h⟩), ?_⟩
  intro B ρ δ κ σ H A D s g l h im
  have lρ : A.n ≤ ρ.length := by rw [g.len]; exact l
  have hx : HX ⟨K.K, A.n, fun B' ρ' H' => K.Z B' ρ' H' ∧ UpN A.n B ρ H B' ρ' H', fun _ _ _ _ _ _ w z => ⟨K.up _ _ _ _ _ _ (w.mono im.kn) z.1, z.2.trans w⟩⟩ (exTryO X.N.length exm fs Eo A) (lenW X.N.length (wOnly X.K c (fun a cls d D σ H => ∃ (n : Nat) (Z : Hp → List Addr → Hp → Prop) (up : ∀ B ρ H B' ρ' H', UpN n B ρ H B' ρ' H' → Z B ρ H → Z B' ρ' H'), ts a cls d n Z up D σ H) Wout D)) := by
    intro B1 ρ1 κ1 H1 xa cls d g1 ⟨b, hb1, hy, hn⟩ rx σ1 hσ
    have z1 : K.Z B1 ρ1 H1 ∧ UpN A.n B ρ H B1 ρ1 H1 := g1.z
    have gk : G K B1 ρ1 κ1 H1 := G.zone g1.plain z1.1
    refine ⟨b, hm _ _ _ hb1 (by rw [hK]; exact rx.1), fun eb a na => ?_, fun eb => hxo _ _ _ _ _ _ _ gk (hn eb) rx σ1⟩
    refine ⟨K.n, fun B' ρ' H' => K.Z B' ρ' H', fun _ _ _ _ _ _ w z => K.up _ _ _ _ _ _ w z, ?_⟩
    have im1 := im.later z1.2
    refine (hsu a { cls := cls, dict := d, data := .fields #[] } cls d [] K.n (fun B' ρ' H' => K.Z B' ρ' H') (fun _ _ _ _ _ _ w z => K.up _ _ _ _ _ _ w z) ⟨rfl, rfl⟩ ⟨_, rfl⟩).sd
      B1 ρ1 _ κ1 _ H1 _ _ ?_ (G.zone (K := ⟨K.K, K.n, fun B' ρ' H' => K.Z B' ρ' H', fun _ _ _ _ _ _ w z => K.up _ _ _ _ _ _ w z⟩) g1.plain z1.1) ?_ (hy eb) ⟨?_, ?_, ?_, ?_, im.kn⟩
    · refine ⟨by rw [List.length_replicate, hσ], fun j b hj => ?_⟩
      rw [List.getElem?_replicate] at hj
      split at hj
      · cases hj
      · cases hj
    · show A.n ≤ κ1.length
      rw [← gk.len]
      exact z1.2.lenN lρ
    · exact fun B' ρ' κ' H' δ' σ' w g' s' l' h' => im1.nx _ _ _ _ _ _ w (G.zone g'.plain g'.z) s' l' h'
    · exact fun B' ρ' κ' H' a v w g' r' l' h' => im1.rt _ _ _ _ _ _ w (G.zone g'.plain g'.z) r' l' h'
    · exact fun B' ρ' κ' H' δ' σ' w g' s' l' h' => im1.bk _ _ _ _ _ _ w (G.zone g'.plain g'.z) s' l' h'
    · exact fun B' ρ' κ' H' δ' σ' w g' s' l' h' => im1.ct _ _ _ _ _ _ w (G.zone g'.plain g'.z) s' l' h'
  refine ⟨A.n, _, _, exTryO X.N.length exm fs Eo A, hx, ?_⟩
  refine (hb (lenW X.N.length (wOnly X.K c _ Wout D)) [] (xeAny X) A.n (fun B' ρ' H' => K.Z B' ρ' H' ∧ UpN A.n B ρ H B' ρ' H') (fun _ _ _ _ _ _ w z => ⟨K.up _ _ _ _ _ _ (w.mono im.kn) z.1, z.2.trans w⟩) (exTryO X.N.length exm fs Eo A) (takes_any hs hf) passes_any hx).sd B ρ δ κ σ H A D s
      (G.zone (K := ⟨K.K, A.n, fun B' ρ' H' => K.Z B' ρ' H' ∧ UpN A.n B ρ H B' ρ' H', fun _ _ _ _ _ _ w z => ⟨K.up _ _ _ _ _ _ (w.mono im.kn) z.1, z.2.trans w⟩⟩) g.plain ⟨g.z, UpN.refl⟩) l h ⟨?_, ?_, ?_, ?_, Nat.le_refl _⟩
  · exact fun B' ρ' κ' H' δ' σ' w g' s' l' h' => im.nx _ _ _ _ _ _ w (G.zone g'.plain g'.z.1) s' l' h'
  · exact fun B' ρ' κ' H' a v w g' r' l' h' => im.rt _ _ _ _ _ _ w (G.zone g'.plain g'.z.1) r' l' h'
  · exact fun B' ρ' κ' H' δ' σ' w g' s' l' h' => im.bk _ _ _ _ _ _ w (G.zone g'.plain g'.z.1) s' l' h'
  · exact fun B' ρ' κ' H' δ' σ' w g' s' l' h' => im.ct _ _ _ _ _ _ w (G.zone g'.plain g'.z.1) s' l' h'
end
end Ab
set_option Elab.async false
set_option linter.all false
set_option maxRecDepth 100000
set_option maxHeartbeats 4000000
/-! Ab28: cells in another order, some forgotten: js tells the old number at each new place -/
namespace Ab
open PySem L2
variable {B B' B2 H H' H2 : Hp} {ρ ρ' ρ2 : List Addr} {κ κ' : AK} {δ : AD} {σ : L2.St} {p : Addr} {k : Nat} {v x y z : V} {a b c : AV}
variable {K : PySem.W.Frag}
def rnA (js : List Nat) : AV → AV
  | .c k => .c (js.idxOf k)
  | a => a
def rnC (js : List Nat) : Cell → Cell
  | .lst xs => .lst (xs.map (rnA js))
  | .tup xs => .tup (xs.map (rnA js))
  | .ins C fs => .ins C (fs.map fun p => (p.1, rnA js p.2))
  | .dA fs => .dA (fs.map fun p => (p.1, rnA js p.2))
  | c => c
def rkA (js : List Nat) : AV → Bool
  | .c k => decide (k ∈ js)
  | _ => true
def rkC (js : List Nat) : Cell → Bool
  | .lst xs => xs.all (rkA js)
  | .tup xs => xs.all (rkA js)
  | .ins _ fs => fs.all fun p => rkA js p.2
  | .dA fs => fs.all fun p => rkA js p.2
  | _ => true
def rkD (js : List Nat) (δ : AD) : Bool := δ.all fun o => match o with
  | some a => rkA js a
  | none => true
/-- the cells at the numbers js -/
def pick (js : List Nat) (κ : AK) : AK := js.map fun j => rnC js (κ.getD j .dead)
theorem at_idx {js : List Nat} : ∀ {k : Nat}, k ∈ js → js[js.idxOf k]? = some k := by
  induction js with
  | nil => intro k h; cases h
  | cons j js ih =>
    intro k h
    rw [List.idxOf_cons]
    by_cases e : j = k
    · subst e; simp
    · have hk : k ∈ js := by
        rcases List.mem_cons.mp h with h | h
        · exact absurd h.symm e
        · exact h
      have : (j == k) = false := by simp [e]
      rw [this]
      show (j :: js)[js.idxOf k + 1]? = some k
      rw [List.getElem?_cons_succ]; exact ih hk
/-- the addresses -/
theorem pick_rho {js : List Nat} (h : ∀ j ∈ js, j < ρ.length) : ∃ ρ' : List Addr, ρ'.length = js.length ∧ (∀ i j : Nat, js[i]? = some j → ρ'[i]? = ρ[j]?) ∧ ∀ p ∈ ρ', p ∈ ρ := by
  induction js with
  | nil => exact ⟨[], rfl, fun i j e => by simp at e, fun p hp => by cases hp⟩
  | cons j js ih =>
    obtain ⟨ρ', e1, e2, e3⟩ := ih fun x hx => h x (List.mem_cons_of_mem _ hx)
    have hj := h j (List.mem_cons_self ..)
    refine ⟨ρ[j] :: ρ', by simp [e1], fun i x e => ?_, fun p hp => ?_⟩
    · cases i with
      | zero => simp at e; subst e; simp [List.getElem?_eq_getElem hj]
      | succ i => simp at e ⊢; exact e2 i x e
    · rcases List.mem_cons.mp hp with rfl | hp
      · exact List.getElem_mem hj
      · exact e3 p hp
theorem Rep.rn {js : List Nat} (hr : ∀ i j : Nat, js[i]? = some j → ρ'[i]? = ρ[j]?) (h : rkA js a = true) (r : Rep K B ρ a v) : Rep K B ρ' (rnA js a) v := by
  cases a with
  | d x => exact r
  | r w => exact r
  | c j =>
    obtain ⟨p, hp, e⟩ := r
    have hj : j ∈ js := of_decide_eq_true h
    exact ⟨p, (hr _ _ (at_idx hj)).trans hp, e⟩
theorem Reps.rn {js : List Nat} (hr : ∀ i j : Nat, js[i]? = some j → ρ'[i]? = ρ[j]?) : ∀ {as : List AV} {vs : List V}, as.all (rkA js) = true → Reps K B ρ as vs → Reps K B ρ' (as.map (rnA js)) vs
  | _, _, _, .nil => .nil
  | _, _, h, .cons h1 h2 => by
    rw [List.all_cons, Bool.and_eq_true] at h
    exact .cons (h1.rn hr h.1) (Reps.rn hr h.2 h2)
theorem RepKs.rn {ι : Type} {js : List Nat} (hr : ∀ i j : Nat, js[i]? = some j → ρ'[i]? = ρ[j]?) : ∀ {as : List (ι × AV)} {vs : List (ι × V)}, (as.all fun p => rkA js p.2) = true → RepKs K B ρ as vs → RepKs K B ρ' (as.map fun p => (p.1, rnA js p.2)) vs
  | _, _, _, .nil => .nil
  | _, _, h, .cons h1 h2 => by
    rw [List.all_cons, Bool.and_eq_true] at h
    exact .cons ⟨h1.1, h1.2.rn hr h.1⟩ (RepKs.rn hr h.2 h2)
theorem CellOk.rn {js : List Nat} {cl : Cell} (hr : ∀ i j : Nat, js[i]? = some j → ρ'[i]? = ρ[j]?) (h : rkC js cl = true) (ok : CellOk K B ρ H p cl) : CellOk K B ρ' H p (rnC js cl) := by
  cases cl with
  | dead => exact ok
  | ld ys => exact ok
  | lst ys => obtain ⟨n, ws, r, e⟩ := ok; exact ⟨n, ws, Reps.rn hr h r, e⟩
  | tup ys => obtain ⟨ws, r, e⟩ := ok; exact ⟨ws, Reps.rn hr h r, e⟩
  | dK ys => exact ok
  | dT ys => exact ok
  | ins C ys => obtain ⟨n, dx, ws, r, e⟩ := ok; exact ⟨n, dx, ws, RepKs.rn hr h r, e⟩
  | dA ys => obtain ⟨n, ws, r, e⟩ := ok; exact ⟨n, ws, RepKs.rn hr h r, e⟩
  | ho o => exact ok
  | xo φ => exact ok
  | fk od ws kvs => exact ok
theorem G.pick (g : G (Frg.of K) B ρ κ H) {js : List Nat} (nd : js.Nodup) (hl : ∀ j ∈ js, j < κ.length) (h : js.all (fun j => rkC js (κ.getD j .dead)) = true) (hr : ∀ i j : Nat, js[i]? = some j → ρ'[i]? = ρ[j]?) (el : ρ'.length = js.length) : G (Frg.of K) B ρ' (pick js κ) H := by
  refine ⟨g.ex, by unfold Ab.pick; rw [List.length_map]; exact el, fun i j p h1 h2 => ?_, fun i p c h1 h2 => ?_, True.intro⟩
  · have li : i < js.length := by rw [← el]; exact (List.getElem?_eq_some_iff.mp h1).1
    have lj : j < js.length := by rw [← el]; exact (List.getElem?_eq_some_iff.mp h2).1
    rw [hr i _ (List.getElem?_eq_getElem li)] at h1
    rw [hr j _ (List.getElem?_eq_getElem lj)] at h2
    have e := g.inj _ _ p h1 h2
    have pw := List.pairwise_iff_getElem.mp nd
    rcases Nat.lt_trichotomy i j with z | z | z
    · exact absurd e (pw i j li lj z)
    · exact z
    · exact absurd e.symm (pw j i lj li z)
  · unfold Ab.pick at h2
    rw [List.getElem?_map] at h2
    obtain ⟨j, hj, rfl⟩ := Option.map_eq_some_iff.mp h2
    have mj := List.mem_of_getElem? hj
    have lj := hl j mj
    rw [hr i j hj] at h1
    have e : κ.getD j .dead = κ[j] := by simp [List.getElem?_eq_getElem lj]
    have hc := List.all_eq_true.mp h j mj
    rw [e] at hc ⊢
    exact (g.at' j p _ h1 (List.getElem?_eq_getElem lj)).rn hr hc
theorem UpN.pick {n : Nat} {js : List Nat} (hn : ∀ i, i < n → js[i]? = some i) (hr : ∀ i j : Nat, js[i]? = some j → ρ'[i]? = ρ[j]?) (hm : ∀ p ∈ ρ', p ∈ ρ) : UpN n B ρ H B ρ' H :=
  ⟨Same.refl B, fun i a hi e => (hr i i (hn i hi)).trans e, fun p o h1 h2 h3 => ⟨h1, h2, fun z => h3 (hm p z)⟩⟩
theorem pre_ok {js : List Nat} {n : Nat} (h : js.take n = List.range n) : ∀ i, i < n → js[i]? = some i := fun i hi => by
  have e : (js.take n)[i]? = some i := by rw [h, List.getElem?_range hi]
  rw [List.getElem?_take_of_lt hi] at e; exact e
/-- the cells at the numbers js, in this order -/
theorem GhS.pick {n : Nat} (js : List Nat) (hn : js.take n = List.range n) (nd : js.Nodup) (hl : js.all (fun j => decide (j < κ.length)) = true) (h : js.all (fun j => rkC js (κ.getD j .dead)) = true) (hd : rkD js δ = true) : GhS K n δ κ (δ.map (Option.map (rnA js))) (pick js κ) := by
  have hl' : ∀ j ∈ js, j < κ.length := fun j hj => of_decide_eq_true (List.all_eq_true.mp hl j hj)
  have nl : n ≤ js.length := by
    have e := congrArg List.length hn
    rw [List.length_take, List.length_range] at e; omega
  refine ⟨by unfold Ab.pick; rw [List.length_map]; exact nl, fun B ρ σ H s g => ?_⟩
  obtain ⟨ρ', e1, e2, e3⟩ := pick_rho (ρ := ρ) (js := js) fun j hj => by rw [g.len]; exact hl' j hj
  refine ⟨B, ρ', UpN.pick (pre_ok hn) e2 e3, ⟨by simpa using s.len, fun i a e => ?_⟩, g.pick nd hl' h e2 e1⟩
  rw [List.getElem?_map] at e
  obtain ⟨o, ho, e⟩ := Option.map_eq_some_iff.mp e
  obtain ⟨a0, rfl, rfl⟩ := Option.map_eq_some_iff.mp e
  obtain ⟨v, e1, r⟩ := s.at' i a0 ho
  exact ⟨v, e1, r.rn e2 (List.all_eq_true.mp hd (some a0) (mem_of_get ho))⟩
theorem GhR.pick {n : Nat} (js : List Nat) (hn : js.take n = List.range n) (nd : js.Nodup) (hl : js.all (fun j => decide (j < κ.length)) = true) (h : js.all (fun j => rkC js (κ.getD j .dead)) = true) (hd : rkA js a = true) : GhR K n a κ (rnA js a) (pick js κ) := by
  have hl' : ∀ j ∈ js, j < κ.length := fun j hj => of_decide_eq_true (List.all_eq_true.mp hl j hj)
  have nl : n ≤ js.length := by
    have e := congrArg List.length hn
    rw [List.length_take, List.length_range] at e; omega
  refine ⟨by unfold Ab.pick; rw [List.length_map]; exact nl, fun B ρ H v g r => ?_⟩
  obtain ⟨ρ', e1, e2, e3⟩ := pick_rho (ρ := ρ) (js := js) fun j hj => by rw [g.len]; exact hl' j hj
  exact ⟨B, ρ', UpN.pick (pre_ok hn) e2 e3, r.rn e2 hd, g.pick nd hl' h e2 e1⟩
end Ab
set_option Elab.async false
set_option linter.all false
set_option maxRecDepth 100000
set_option maxHeartbeats 4000000
/-! Ab29: list.index, list.count of flat things; a dict of the top with text keys -/
namespace Ab
open PySem L2
variable {K : Frg} {B B' B2 H H' H2 : Hp} {ρ ρ' ρ2 : List Addr} {κ κ' : AK} {δ : AD} {σ : L2.St} {p : Addr} {k : Nat} {v x y z : V} {a b c : AV}
variable {X : Cx} {e e2 : Expr} {t u : TE} {f f2 : AE} {pos : Pos}
theorem flatV_strs (ys : List Str) : (ys.map V.str).all flatV = true := by
  rw [List.all_map]
  exact List.all_eq_true.mpr fun _ _ => rfl
/-- xs.index(x) of a list of texts -/
def aIndex : AV → List AV → AK → AR → Prop := fun a as κ R => match a, as with
  | .d (.list ds), [.d (.str x)] => ∃ ys : List Str, ds = ys.map .str ∧ x ∈ ys ∧ R (.d (.int (ys.idxOf x : Nat))) κ
  | _, _ => False
theorem idx_str {ys : List Str} {x : Str} (h : x ∈ ys) : (ys.map V.str)[ys.idxOf x]? = some (V.str x) ∧ ∀ m z', m < ys.idxOf x → (ys.map V.str)[m]? = some z' → eqV z' (.str x) = false := by
  have hl := List.idxOf_lt_length_of_mem h
  constructor
  · rw [List.getElem?_map, List.getElem?_eq_getElem hl, List.getElem_idxOf hl]; rfl
  · intro m z' hm hz
    rw [List.getElem?_map] at hz
    obtain ⟨w, hw, rfl⟩ := Option.map_eq_some_iff.mp hz
    obtain ⟨lm, rfl⟩ := List.getElem?_eq_some_iff.mp hw
    exact List.not_of_lt_findIdx (p := fun y => y == x) hm
theorem ma_index (hK : X.K = K := by rfl) : MtA K X "list.index" (rIndex K) aIndex := by
  obtain ⟨K, Kn, KZ, Ku⟩ := K
  change X.K = K at hK
  subst hK
  refine ⟨mt_index, fun B ρ κ H x xs a as R Q g rx rs h q => ?_⟩
  unfold aIndex at h
  split at h
  · obtain ⟨ys, rfl, hm, h⟩ := h
    obtain ⟨y, rfl, ry⟩ := reps1 rs
    cases ry.str
    obtain ⟨p, vs, rfl, s1, d1⟩ := of_listG g rx
    obtain rfl := dpa_strs_eq d1
    obtain ⟨h1, h2⟩ := idx_str hm
    exact ⟨p, _, _, _, _, rfl, rfl, s1, rfl, flatV_strs ys, h1, beq_self_eq_true _, h2, q.at0 g (rp_int _) h⟩
  · exact h.elim
/-- xs.count(x) of a list of texts -/
def rCntF (K : PySem.W.Frag) : V → List V → Hp → VK → Prop := fun x xs H Q => ∃ (p : Addr) (ys : List V) (y : V), x = .ref p ∧ xs = [y] ∧ SqL K H p ys ∧ flatV y = true ∧ ys.all flatV = true ∧ Q (.int (ys.countP fun z => eqV z y : Nat)) H
theorem eqU_countP {y : V} : ∀ {ys : List V} {us : List Value}, Vals ys us → ys.all flatV = true → us.countP (eqU y) = ys.countP fun z => eqV z y
  | _, _, .nil, _ => rfl
  | z :: ys, u :: us, .cons r t, f => by
    rw [List.all_cons, Bool.and_eq_true] at f
    rw [List.countP_cons, List.countP_cons, eqU_of r f.1, eqU_countP t f.2]
theorem mt_countF : MtR X "list.count" (rCntF X.K) := by
  intro pins s σ H x xs v us Q I rx rxs h
  obtain ⟨p, ys, y, rfl, rfl, hs, fy, fys, q⟩ := h
  cases rx
  cases rxs with
  | cons ry rt =>
    rename_i uy ut
    cases rt
    obtain ⟨its, rv, ⟨⟨cls, dd, data, sl⟩, n, ho, hc, hdn, hd⟩, hlen⟩ := I.list hs
    simp only at hc hd
    subst hc hd
    refine call_meets PySem.F.slot_list_count ⟨_, ho, rfl⟩ PySem.F.entry_list_count (PySem.F.args_list_count_2 _ _)
      (SeqAt.list_countAt p its.toArray n dd sl uy (eqU y)) ⟨ho, fun u' hu' => mem_eqAt ry fy rv fys u' (by simpa using hu'), ?_⟩
    refine ⟨.int (ys.countP fun z => eqV z y : Nat), H, I.tok _, ⟨s.toks, ?_⟩, q⟩
    show Value.int ((its.toArray.toList.countP (eqU y) : Nat) : Int) s.toks = _
    rw [show its.toArray.toList = its from rfl, eqU_countP rv fys]
def aCount : AV → List AV → AK → AR → Prop := fun a as κ R => match a, as with
  | .d (.list ds), [.d (.str x)] => ∃ ys : List Str, ds = ys.map .str ∧ R (.d (.int (ys.count x : Nat))) κ
  | _, _ => False
theorem countP_strs (x : Str) : ∀ ys : List Str, (ys.map V.str).countP (fun z => eqV z (.str x)) = ys.count x
  | [] => rfl
  | y :: ys => by
    rw [List.map_cons, List.countP_cons, countP_strs x ys, List.count_cons]; rfl
theorem ma_count (hK : X.K = K := by rfl) : MtA K X "list.count" (rCntF K) aCount := by
  obtain ⟨K, Kn, KZ, Ku⟩ := K
  change X.K = K at hK
  subst hK
  refine ⟨mt_countF, fun B ρ κ H x xs a as R Q g rx rs h q => ?_⟩
  unfold aCount at h
  split at h
  · obtain ⟨ys, rfl, h⟩ := h
    obtain ⟨y, rfl, ry⟩ := reps1 rs
    cases ry.str
    obtain ⟨p, vs, rfl, s1, d1⟩ := of_listG g rx
    obtain rfl := dpa_strs_eq d1
    refine ⟨p, _, _, rfl, rfl, s1, rfl, flatV_strs ys, ?_⟩
    rw [countP_strs]
    exact q.at0 g (rp_int _) h
  · exact h.elim
end Ab
set_option Elab.async false
set_option linter.all false
set_option maxRecDepth 100000
set_option maxHeartbeats 4000000
/-! Ab30: a dict of the top with text keys: in, not in, d[k] -/
namespace Ab
open PySem L2
variable {K : Frg} {B B' B2 H H' H2 : Hp} {ρ ρ' ρ2 : List Addr} {κ κ' : AK} {δ : AD} {σ : L2.St} {p : Addr} {k : Nat} {v x y z : V} {a b c : AV}
variable {X : Cx} {e e2 : Expr} {t u : TE} {f f2 : AE} {pos : Pos}
def KVal (K : PySem.W.Frag) : Option Value → Option PyData → Prop
  | none, none => True
  | some u, some d => ∃ v0, RelV v0 u ∧ ∀ B, Dp K B v0 d
  | _, _ => False
/-- the dict at q is known at these keys -/
structure KDat (K : PySem.W.Frag) (w : World) (q : Addr) (tb : List (Str × Option PyData)) : Prop where
  d : ∃ es n, KDict K w q es n
  v : ∀ e ∈ tb, ∃ r, PySem.W.nsIn K q e.1 = some r ∧ KVal K r e.2
theorem look_mem {α : Type} {z : Str} {o : α} : ∀ {tb : List (Str × α)}, tb.lookup z = some o → (z, o) ∈ tb
  | [], h => by cases h
  | (k, d) :: tb, h => by
    rw [List.lookup_cons] at h
    cases e : (z == k) with
    | true =>
      rw [e] at h; cases h
      rw [beq_iff_eq.mp e]; exact List.mem_cons_self ..
    | false => rw [e] at h; exact List.mem_cons_of_mem _ (look_mem h)
def aKIn (n : Bool → Bool) (tb : List (Str × Option PyData)) (f : AE) : AE := fun δ κ R => f δ κ fun a κ1 => match a with
  | .d (.str z) => ∃ o, tb.lookup z = some o ∧ R (.d (.bool (n o.isSome))) κ1
  | _ => False
def aKGet (tb : List (Str × Option PyData)) (f : AE) : AE := fun δ κ R => f δ κ fun a κ1 => match a with
  | .d (.str z) => ∃ d, tb.lookup z = some (some d) ∧ R (.d d) κ1
  | _ => False
theorem kval_some {K : PySem.W.Frag} {r : Option Value} {o : Option PyData} (h : KVal K r o) : r.isSome = o.isSome := by
  cases r <;> cases o <;> first | rfl | exact h.elim
section
variable {q : Addr} {tb : List (Str × Option PyData)} {nm : Str} {p2 : Pos}
theorem pe_globR (hg : Gl X nm) (hm : X.mg nm = some (.ref q)) (hdb : (nm == ("__debug__" : Str)) = false := by decide) : PE X (.Name nm p2) (tC (.ref q)) := pe_glob hg hm (show RelV (.ref q) (.ref q) from rfl) hdb
abbrev rKIn (K : PySem.W.Frag) (q : Addr) (n : Bool → Bool) : R2 := fun x y H Q => ∃ (z : Str) (r : Option Value), x = .str z ∧ y = .ref q ∧ PySem.W.nsIn K q z = some r ∧ Q (.bl (n r.isSome)) H
theorem kin_sd {K : Frg} {q : Addr} {tb : List (Str × Option PyData)} {n : Bool → Bool} (hv : ∀ e ∈ tb, ∃ r, PySem.W.nsIn K.K q e.1 = some r ∧ KVal K.K r e.2) (h1 : SE K t f) : SE K (tOp (rKIn K q n) t (tC (.ref q))) (aKIn n tb f) := fun B ρ δ κ σ H R Q s g hh qq => h1 B ρ δ κ σ H _ _ s g hh fun B1 ρ1 κ1 H1 a x u1 g1 r1 h => by
  split at h
  · obtain ⟨o, ho, h⟩ := h
    obtain ⟨r, e1, e2⟩ := hv _ (look_mem ho)
    cases r1.str
    refine ⟨_, r, rfl, rfl, e1, ?_⟩
    rw [kval_some e2]
    exact qq _ _ _ _ _ _ u1 g1 (rp_bl _) h
  · exact h.elim
variable {w : World}
theorem ea_kin (kd : KDat K w q tb) (hg : Gl X nm) (hm : X.mg nm = some (.ref q)) (h1 : PEa K X e t f) (hK : X.K = K := by rfl) (hw : X.w = w := by rfl) (hdb : (nm == ("__debug__" : Str)) = false := by decide) (hmk : behindInMarks .In (.Name nm p2 : Expr) = false := by first | exact nomark _ | rfl) : PEa K X (.Compare e [.In] [.Name nm p2] pos) (tOp (rKIn K q id) t (tC (.ref q))) (aKIn id tb f) := by
  obtain ⟨K, Kn, KZ, Ku⟩ := K
  change X.K = K at hK
  subst hK hw
  obtain ⟨es, n, D⟩ := kd.d
  exact ⟨pe_cmpR (op_in_kd D) h1.pe (pe_globR hg hm hdb) hmk, kin_sd kd.v h1.sd⟩
theorem ea_knotin (kd : KDat K w q tb) (hg : Gl X nm) (hm : X.mg nm = some (.ref q)) (h1 : PEa K X e t f) (hK : X.K = K := by rfl) (hw : X.w = w := by rfl) (hdb : (nm == ("__debug__" : Str)) = false := by decide) (hmk : behindInMarks .NotIn (.Name nm p2 : Expr) = false := by first | exact nomark _ | rfl) : PEa K X (.Compare e [.NotIn] [.Name nm p2] pos) (tOp (rKIn K q not) t (tC (.ref q))) (aKIn not tb f) := by
  obtain ⟨K, Kn, KZ, Ku⟩ := K
  change X.K = K at hK
  subst hK hw
  obtain ⟨es, n, D⟩ := kd.d
  exact ⟨pe_cmpR (op_notIn_kd D) h1.pe (pe_globR hg hm hdb) hmk, kin_sd kd.v h1.sd⟩
theorem ta_kin (kd : KDat K w q tb) (hg : Gl X nm) (hm : X.mg nm = some (.ref q)) (h1 : PEa K X e t f) (hK : X.K = K := by rfl) (hw : X.w = w := by rfl) (hdb : (nm == ("__debug__" : Str)) = false := by decide) (hmk : behindInMarks .In (.Name nm p2 : Expr) = false := by first | exact nomark _ | rfl) : PTa K X (.Compare e [.In] [.Name nm p2] pos) (tTest (tOp (rKIn K q id) t (tC (.ref q)))) (aB (aKIn id tb f)) := by
  obtain ⟨K, Kn, KZ, Ku⟩ := K
  change X.K = K at hK
  subst hK hw
  obtain ⟨es, n, D⟩ := kd.d
  exact ⟨pt_cmpR (op_in_kd D) h1.pe (pe_globR hg hm hdb) hmk, st_B (kin_sd kd.v h1.sd)⟩
theorem ta_knotin (kd : KDat K w q tb) (hg : Gl X nm) (hm : X.mg nm = some (.ref q)) (h1 : PEa K X e t f) (hK : X.K = K := by rfl) (hw : X.w = w := by rfl) (hdb : (nm == ("__debug__" : Str)) = false := by decide) (hmk : behindInMarks .NotIn (.Name nm p2 : Expr) = false := by first | exact nomark _ | rfl) : PTa K X (.Compare e [.NotIn] [.Name nm p2] pos) (tTest (tOp (rKIn K q not) t (tC (.ref q)))) (aB (aKIn not tb f)) := by
  obtain ⟨K, Kn, KZ, Ku⟩ := K
  change X.K = K at hK
  subst hK hw
  obtain ⟨es, n, D⟩ := kd.d
  exact ⟨pt_cmpR (op_notIn_kd D) h1.pe (pe_globR hg hm hdb) hmk, st_B (kin_sd kd.v h1.sd)⟩
theorem ea_kget (kd : KDat K w q tb) (hg : Gl X nm) (hm : X.mg nm = some (.ref q)) (h1 : PEa K X e t f) (hK : X.K = K := by rfl) (hw : X.w = w := by rfl) (hs : PlainIx e := by exact fun _ _ => rfl) (hdb : (nm == ("__debug__" : Str)) = false := by decide) : PEa K X (.Subscript (.Name nm p2) e pos) (tOp (rIxD K w) (tC (.ref q)) t) (aKGet tb f) := by
  obtain ⟨K, Kn, KZ, Ku⟩ := K
  change X.K = K at hK
  subst hK hw
  obtain ⟨es, n, D⟩ := kd.d
  refine ⟨pe_ix ix_kdict (pe_globR hg hm hdb) h1.pe hs, fun B ρ δ κ σ H R Q s g hh qq => h1.sd B ρ δ κ σ H _ _ s g hh fun B1 ρ1 κ1 H1 a x u1 g1 r1 h => ?_⟩
  split at h
  · obtain ⟨d, ho, h⟩ := h
    obtain ⟨r, e1, e2⟩ := kd.v _ (look_mem ho)
    cases r1.str
    cases r with
    | none => exact e2.elim
    | some u =>
      obtain ⟨v0, rv, dv⟩ := e2
      exact ⟨q, _, v0, rfl, rfl, ⟨es, n, u, D.at_, D.lit, e1, rv⟩, qq _ _ _ _ (.d d) v0 u1 g1 (dv _) h⟩
  · exact h.elim
end
theorem kall_nil {K : PySem.W.Frag} {q : Addr} : ∀ e ∈ ([] : List (Str × Option PyData)), ∃ r, PySem.W.nsIn K q e.1 = some r ∧ KVal K r e.2 := fun e he => by cases he
theorem kall_cons {K : PySem.W.Frag} {q : Addr} {x : Str × Option PyData} {tb : List (Str × Option PyData)} (h : ∃ r, PySem.W.nsIn K q x.1 = some r ∧ KVal K r x.2) (t : ∀ e ∈ tb, ∃ r, PySem.W.nsIn K q e.1 = some r ∧ KVal K r e.2) : ∀ e ∈ x :: tb, ∃ r, PySem.W.nsIn K q e.1 = some r ∧ KVal K r e.2 := fun e he => by
  rcases List.mem_cons.mp he with rfl | he
  · exact h
  · exact t e he
/-- the end, for one world -/
theorem fd_one {P : Program} {w : World} {K : PySem.W.Frag} {mg : Str → Option Value} {l : Nat} {fa : Addr} {sp : Sp} (h : ∃ fd : FuncData, (∀ (s : Shared) (v : Value), BindsTo s fd ⟨[v], []⟩ [("script", v)]) ∧ ∀ (P : Program) (base : Heap), FnOk P w K mg base CX0 l fa fd ["script"] sp) :
    ∃ fd : FuncData, (∀ (s : Shared) (v : Value), BindsTo s fd ⟨[v], []⟩ [("script", v)]) ∧ ∀ base : Heap, K.In base → base.Ns mainGlobals mg → FnOk P w K mg base CX0 l fa fd ["script"] sp := by
  obtain ⟨fd, h1, h2⟩ := h
  exact ⟨fd, h1, fun base _ _ => h2 P base⟩
end Ab
set_option Elab.async false
set_option linter.all false
set_option maxRecDepth 100000
set_option maxHeartbeats 4000000
/-! Ab31: a star among arguments and items, a star ahead of one target, zip of two lists or two tuples, more methods of texts -/
namespace Ab
open PySem PySem.Spec PyProof.Rows L2
variable {K : Frg} {B B' B2 H H' H2 : Hp} {ρ ρ' ρ2 : List Addr} {κ κ' : AK} {δ : AD} {σ : L2.St} {p : Addr} {k : Nat} {v x y z : V} {a b c : AV}
variable {X : Cx} {e e2 : Expr} {es : List Expr} {t u : TE} {f f2 : AE} {ta : TA} {fa : AA} {pos : Pos}

/-! ### methods of texts -/
def aTT (g : Str → Str → Bool) : AV → List AV → AK → AR → Prop := fun a as κ R => match a, as with
  | .d (.str s), [.d (.str t)] => R (.d (.bool (g s t))) κ
  | _, _ => False
def aTS (g : Str → Str → Str) : AV → List AV → AK → AR → Prop := fun a as κ R => match a, as with
  | .d (.str s), [.d (.str t)] => s.length ≤ sizeLine ∧ R (.d (.str (g s t))) κ
  | _, _ => False
theorem ma_tt {nm : String} {g : Str → Str → Bool} (m : MtM X nm (fun x xs H Q => ∃ (a b : Str), x = .str a ∧ xs = [.str b] ∧ Q (.bl (g a b)) H)) : MtA K X nm (fun x xs H Q => ∃ (a b : Str), x = .str a ∧ xs = [.str b] ∧ Q (.bl (g a b)) H) (aTT g) := by
  refine ⟨m, fun B ρ κ H x xs a as R Q gg rx rs h q => ?_⟩
  unfold aTT at h
  split at h
  · obtain ⟨y, rfl, r1⟩ := reps1 rs
    cases rx.str; cases r1.str
    exact ⟨_, _, rfl, rfl, q.at0 gg (rp_bl _) h⟩
  · exact h.elim
theorem ma_ts {nm : String} {g : Str → Str → Str} (m : MtM X nm (fun x xs H Q => ∃ (a b : Str), x = .str a ∧ xs = [.str b] ∧ a.length ≤ sizeLine ∧ Q (.str (g a b)) H)) : MtA K X nm (fun x xs H Q => ∃ (a b : Str), x = .str a ∧ xs = [.str b] ∧ a.length ≤ sizeLine ∧ Q (.str (g a b)) H) (aTS g) := by
  refine ⟨m, fun B ρ κ H x xs a as R Q gg rx rs h q => ?_⟩
  unfold aTS at h
  split at h
  · obtain ⟨y, rfl, r1⟩ := reps1 rs
    cases rx.str; cases r1.str
    exact ⟨_, _, rfl, rfl, h.1, q.at0 gg (rp_str _) h.2⟩
  · exact h.elim
theorem ma_starts : MtA K X "str.startswith" (fun x xs H Q => ∃ (a b : Str), x = .str a ∧ xs = [.str b] ∧ Q (.bl (Txt.startswith a b)) H) (aTT Txt.startswith) := ma_tt mt_startswith
theorem ma_ends : MtA K X "str.endswith" (fun x xs H Q => ∃ (a b : Str), x = .str a ∧ xs = [.str b] ∧ Q (.bl (Txt.endswith a b)) H) (aTT Txt.endswith) := ma_tt mt_endswith
theorem ma_rmpre : MtA K X "str.removeprefix" (fun x xs H Q => ∃ (a b : Str), x = .str a ∧ xs = [.str b] ∧ a.length ≤ sizeLine ∧ Q (.str (Txt.removeprefix a b)) H) (aTS Txt.removeprefix) := ma_ts mt_removeprefix
theorem ma_rmsuf : MtA K X "str.removesuffix" (fun x xs H Q => ∃ (a b : Str), x = .str a ∧ xs = [.str b] ∧ a.length ≤ sizeLine ∧ Q (.str (Txt.removesuffix a b)) H) (aTS Txt.removesuffix) := ma_ts mt_removesuffix

/-! ### *e among arguments and items -/
def aStar (f : AE) (fa : AA) : AA := fun δ κ R => f δ κ fun a κ1 => match a with
  | .d (.tuple ds) => fa δ κ1 fun as κ2 => R (ds.map .d ++ as) κ2
  | .d (.list ds) => fa δ κ1 fun as κ2 => R (ds.map .d ++ as) κ2
  | .c k => match κ1[k]? with
    | some (.ld ds) => fa δ κ1 fun as κ2 => R (ds.map .d ++ as) κ2
    | _ => False
  | _ => False
theorem Reps.app {K : PySem.W.Frag} {as cs : List AV} {vs us : List V} (h : Reps K B ρ as vs) (r : Reps K B ρ cs us) : Reps K B ρ (as ++ cs) (vs ++ us) := by
  induction h with
  | nil => exact r
  | cons h1 _ ih => exact .cons h1 ih
theorem aa_star {sp_ : Pos} (h1 : PEa K X e t f) (h2 : PAa K X es ta fa) (hs : starEach (.Starred e sp_ :: es) X.env = (true, eval e X.env) :: starEach es X.env := by rfl) (hK : X.K = K := by rfl) : PAa K X (.Starred e sp_ :: es) (StX.tStar K t ta) (aStar f fa) := by
  obtain ⟨K, Kn, KZ, Ku⟩ := K
  change X.K = K at hK
  subst hK
  refine ⟨StX.pa_star h1.pe h2.pa hs, fun B ρ δ κ σ H R Q s g h q => h1.sd B ρ δ κ σ H _ _ s g h fun B1 ρ1 κ1 H1 a x u1 g1 r1 k1 => ?_⟩
  have fin : ∀ {ds : List PyData} {p : Addr} {xs : List V}, (SqT X.K H1 p xs ∨ SqL X.K H1 p xs) → x = .ref p → DpAll X.K B1 xs ds → fa δ κ1 (fun as κ2 => R (ds.map .d ++ as) κ2) →
      ∃ p xs, x = V.ref p ∧ (SqT X.K H1 p xs ∨ SqL X.K H1 p xs) ∧ ta σ H1 fun ys H2 => Q (xs ++ ys) H2 := fun {ds p xs} hq e d k => ⟨p, xs, e, hq, h2.sd B1 ρ1 δ κ1 σ H1 _ _ (s.up u1.g) g1 k fun B2 ρ2 κ2 H2 as ys u2 g2 r2 k2 =>
    q _ _ _ _ _ _ (u1.trans u2) g2 (Reps.app (Reps.all (dpa_up u2.s _ _ d)) r2) k2⟩
  split at k1
  · obtain ⟨p, vs, e, s1, d1⟩ := r1.tuple
    exact fin (.inl (sqt_up g1.ex s1)) e d1 k1
  · obtain ⟨p, vs, e, s1, d1⟩ := of_listG g1 r1
    exact fin (.inr s1) e d1 k1
  · rename_i k
    split at k1
    · rename_i ds ek
      obtain ⟨p, hp, rfl⟩ := r1
      obtain ⟨_, vs, d1, e1⟩ := g1.at' _ _ _ hp ek
      exact fin (.inr (.inl (.inl e1))) rfl d1 k1
    · exact k1.elim
  · exact k1.elim

/-! ### *a, b = a list -/
theorem star_items {prog : Program} {w : World} {A : Around} {E : Value → Shared → Prop} {s : Shared} {l : Addr} {its : List Value} {z : Value} {Q : List Value → Shared → Prop} (hl : s.heap.IsList l (its ++ [z]).toArray) (hh : A.handled = none) (hz : (its ++ [z]).length ≤ sizeLine)
    (h : ∀ (h' : Heap) (tk : Nat), (∀ b o, s.heap.get? b = some o → h'.get? b = some o) → Q [.ref h'.objs.size, z] { s with heap := h'.push ({ cls := .type "list", data := .seq its.toArray } : Obj), toks := tk }) : wpAny (model prog w) A (unpackItems (.ref l) 2 (some 0)) Q E s := by
  have hlt : l ≠ s.heap.objs.size := by obtain ⟨o, ho, _⟩ := hl; exact Nat.ne_of_lt (Heap.lt_size ho)
  unfold unpackItems
  refine wpAny_bind ?_
  unfold notIterableAtAll
  refine wpAny_bind (wpAny_specialOf hl.typeIs PySem.F.slot_list_iter.lookup ?_)
  refine wpAny_pure ?_
  simp only [Bool.false_eq_true, if_false]
  refine wpAny_bind (wpAny_holding (wpAny_pyIter_list hl ?_))
  refine wpAny_bind (wpAny_holding (PySem.W.kun_draw hlt 0 0 _ _ ⟨_, Heap.get?_push_size _ rfl, rfl, rfl⟩ (hl.push _) (by omega) fun h₁ hit₁ hs₁ => ?_))
  have hl₁ : h₁.IsList l (its ++ [z]).toArray := (hl.push _).extBut hs₁.extBut hlt
  rw [Nat.zero_add] at hit₁
  have hit₁' := hit₁
  obtain ⟨oi, hoi, _⟩ := hit₁'
  have hl₁' := hl₁
  obtain ⟨ol, hol, _⟩ := hl₁'
  rw [if_neg (by simp)]
  refine wpAny_bind (wpAny_holding (PySem.W.kun_collect (s := { s with heap := h₁ }) (T := "list_iterator") (.inr (.inr (.inl rfl))) (Walks.list (A := A.in1) hh s.heap.objs.size l hlt (its ++ [z]).toArray) (fun j u st => st.1.typeIs) (k := 0) (by omega) ⟨hit₁, hl₁⟩ (Heap.lt_size hoi) (Heap.lt_size hol) (fun h₂ tk hk => ?_) (by simpa using hz)))
  have e1 : (its ++ [z]).toArray.toList.drop 0 = its ++ [z] := by simp
  rw [e1]
  have e2 : ((its ++ [z]).length - (2 - 1 - 0)) = its.length := by simp
  show wpAny _ _ (if (its ++ [z]).length < 2 - 1 - 0 then _ else _) _ _ _
  rw [if_neg (by simp)]
  show wpAny _ _ (newList ((its ++ [z]).take ((its ++ [z]).length - (2 - 1 - 0))) >>= fun d => pure ([] ++ [d] ++ (its ++ [z]).drop ((its ++ [z]).length - (2 - 1 - 0)))) _ _ _
  rw [e2, List.take_left' rfl, List.drop_left' rfl]
  refine wpAny_bind (wpAny_newList (s := { s with heap := h₂, toks := tk }) (wpAny_pure (h h₂ tk fun b o e => ?_)) (by simp at hz; omega))
  exact hk b o (Nat.ne_of_lt (Heap.lt_size e)) (hs₁.extBut b o (Nat.ne_of_lt (Heap.lt_size e)) (Heap.get?_push_of_some _ e))
/-- *a, b = a list: a new list and the last one -/
def gStar (K : PySem.W.Frag) (t : TGs) : TG := fun v σ H Q => ∃ a xs z, v = .ref a ∧ SqL K H a (xs ++ [z]) ∧ ∀ p, H p = none → t [.ref p, z] σ (upd H p (.lst xs)) Q
theorem pg_star {e1 e2 : Expr} {kk : Nat} {p1 : Pos} {t : TGs} (hc : X.calm = true) (h : PGs X [e1, e2] t)
    (hn : (assignEach [.Starred e1 p1, e2] X.env).length = 2 := by rfl) (hst : (assignEach [.Starred e1 p1, e2] X.env).findIdx? (·.1) = some 0 := by rfl)
    (hm : (assignEach [.Starred e1 p1, e2] X.env).map (·.2) = (assignEach [e1, e2] X.env).map (·.2) := by rfl) : PG X (.Tuple [.Starred e1 p1, e2] kk pos) (gStar X.K t) := by
  refine ⟨fun pins s σ H v u Q I r hw => ?_⟩
  obtain ⟨a, xs, z, rfl, hq, hw⟩ := hw
  cases r
  obtain ⟨its, rv, pl, hz⟩ := I.list hq
  obtain ⟨u1, u2, rfl, r1, r2⟩ := StX.vals_split rv
  cases r2 with
  | cons rz r2 =>
    rename_i uz us
    cases r2
    rw [PyProof.Rows.assign_Tuple]
    refine wpAny_bind (wpAny_standAt ?_)
    unfold unpack
    rw [hn, hst, hm]
    have hz' : (u1 ++ [uz]).length ≤ sizeLine := by have := r1.length; simp at hz ⊢; omega
    refine wpAny_bind (wpAny_holding (star_items pl.isList (I.ok.hd hc) hz' fun h' tk hk => ?_))
    have I1 : Inv X pins σ H { s with heap := h', toks := tk } := I.kept hk
    have hf : H h'.objs.size = none := I1.hok.fresh (Nat.le_refl _)
    have I2 : Inv X pins σ (upd H h'.objs.size (.lst xs)) { s with heap := h'.push ({ cls := .type "list", data := .seq u1.toArray } : Obj), toks := tk } :=
      I1.laid (t' := tk) (fun b u e => Heap.get?_push_of_some _ e) (Nat.le_refl _) ⟨by rw [r1.length]; simp at hz'; omega, u1, 0, r1, Heap.get?_push_size _ rfl⟩
    exact h.run pins _ σ _ _ _ Q I2 (.cons (show RelV (V.ref h'.objs.size) (Value.ref h'.objs.size) from rfl) (.cons rz .nil)) (hw _ hf)
theorem dpa_snoc {K : PySem.W.Frag} : ∀ {ds : List PyData} {d : PyData} {vs : List V}, DpAll K B vs (ds ++ [d]) → ∃ v1 vz, vs = v1 ++ [vz] ∧ DpAll K B v1 ds ∧ Dp K B vz d
  | [], _, _, h => by
    cases h with
    | cons h1 h2 => cases h2; exact ⟨[], _, rfl, .nil, h1⟩
  | _ :: _, _, _, h => by
    cases h with
    | cons h1 h2 =>
      obtain ⟨v1, vz, rfl, e1, e2⟩ := dpa_snoc h2
      exact ⟨_ :: v1, vz, rfl, .cons h1 e1, e2⟩
def aGStar (gs : AGs) : AG := fun a δ κ R => match a with
  | .d (.list ds) => ∃ es z, ds = es ++ [z] ∧ gs [.d (.list es), .d z] δ κ R
  | _ => False
theorem ga_star {e1 e2 : Expr} {kk : Nat} {p1 : Pos} {tgs : TGs} {ags : AGs} (hc : X.calm = true) (h : PGsa K X [e1, e2] tgs ags)
    (hn : (assignEach [.Starred e1 p1, e2] X.env).length = 2 := by rfl) (hst : (assignEach [.Starred e1 p1, e2] X.env).findIdx? (·.1) = some 0 := by rfl)
    (hm : (assignEach [.Starred e1 p1, e2] X.env).map (·.2) = (assignEach [e1, e2] X.env).map (·.2) := by rfl) (hK : X.K = K := by rfl) : PGa K X (.Tuple [.Starred e1 p1, e2] kk pos) (gStar K tgs) (aGStar ags) := by
  obtain ⟨K, Kn, KZ, Ku⟩ := K
  change X.K = K at hK
  subst hK
  refine ⟨pg_star hc h.pg hn hst hm, fun B ρ δ κ σ H a v R Q s g r hh q => ?_⟩
  unfold aGStar at hh
  split at hh
  · obtain ⟨es, z, rfl, hh⟩ := hh
    obtain ⟨p, vs, rfl, s1, d1⟩ := of_listG g r
    obtain ⟨v1, vz, rfl, d2, dz⟩ := dpa_snoc d1
    refine ⟨p, v1, vz, rfl, s1, fun p' hp' => ?_⟩
    obtain ⟨u4, g4, r4⟩ := new_lst g hp' d2
    have rz : Rep X.K (upd B p' (.lst v1)) ρ (.d z) vz := dp_up u4.s _ _ dz
    exact h.sd _ _ _ _ _ _ _ _ _ _ (s.up u4.g) g4 (.cons r4 (.cons rz .nil)) hh fun _ _ _ _ _ _ u5 => q _ _ _ _ _ _ (u4.trans u5)
  · exact hh.elim

/-! ### zip -/
def itZ (xs ys : List PyData) : AIt := ⟨fun i _ => i < xs.length ∧ i < ys.length, fun i _ a => ∃ x y, xs[i]? = some x ∧ ys[i]? = some y ∧ a = .d (.tuple [x, y]), fun i _ => xs.length ≤ i ∨ ys.length ≤ i⟩
theorem ri_zipL {xs ys : List PyData} {p q : Addr} {vs us : List V} (hs : SqL K B p vs) (d : DpAll K B vs xs) (hs2 : SqL K B q us) (d2 : DpAll K B us ys) : RI K B ρ H (Itz K p q) (itZ xs ys) := by
  intro B2 ρ2 κ2 H2 w2 g2 i
  have h1 : SqL K H2 p vs := g2.ex.seq (w2.s.seq hs)
  have h2 : SqL K H2 q us := g2.ex.seq (w2.s.seq hs2)
  have l1 := dpa_len d
  have l2 := dpa_len d2
  refine ⟨fun h => ⟨vs, us, h1, h2, by rw [l1, l2]; exact h⟩, fun h => ?_⟩
  obtain ⟨w, hw, r⟩ := dpa_get d (getLt h.1)
  obtain ⟨w', hw', r'⟩ := dpa_get d2 (getLt h.2)
  refine ⟨⟨vs, us, w, w', h1, h2, hw, hw'⟩, fun x H3 hy => ?_⟩
  obtain ⟨T, x0, y0, rfl, hT, rfl, f1, f2⟩ := hy
  cases (f1 vs h1).symm.trans hw
  cases (f2 us h2).symm.trans hw'
  obtain ⟨u4, g4, r4⟩ := new_tup g2 hT (ds := [xs[i]'h.1, ys[i]'h.2]) (.cons (dp_up w2.s _ _ r) (.cons (dp_up w2.s _ _ r') .nil))
  exact ⟨_, _, u4, g4, r4, _, _, getLt h.1, getLt h.2, rfl⟩
theorem ri_zipT {xs ys : List PyData} {p q : Addr} {vs us : List V} (hs : SqT K B p vs) (d : DpAll K B vs xs) (hs2 : SqT K B q us) (d2 : DpAll K B us ys) : RI K B ρ H (RZ.ItzT K p q) (itZ xs ys) := by
  intro B2 ρ2 κ2 H2 w2 g2 i
  have h1 : SqT K H2 p vs := sqt_up g2.ex (sqt_up w2.s hs)
  have h2 : SqT K H2 q us := sqt_up g2.ex (sqt_up w2.s hs2)
  have l1 := dpa_len d
  have l2 := dpa_len d2
  refine ⟨fun h => ⟨vs, us, h1, h2, by rw [l1, l2]; exact h⟩, fun h => ?_⟩
  obtain ⟨w, hw, r⟩ := dpa_get d (getLt h.1)
  obtain ⟨w', hw', r'⟩ := dpa_get d2 (getLt h.2)
  refine ⟨⟨vs, us, w, w', h1, h2, hw, hw'⟩, fun x H3 hy => ?_⟩
  obtain ⟨T, x0, y0, rfl, hT, rfl, f1, f2⟩ := hy
  cases (f1 vs h1).symm.trans hw
  cases (f2 us h2).symm.trans hw'
  obtain ⟨u4, g4, r4⟩ := new_tup g2 hT (ds := [xs[i]'h.1, ys[i]'h.2]) (.cons (dp_up w2.s _ _ r) (.cons (dp_up w2.s _ _ r') .nil))
  exact ⟨_, _, u4, g4, r4, _, _, getLt h.1, getLt h.2, rfl⟩
def aZip (fa : AA) : AI := fun δ κ R => fa δ κ fun as κ1 => match as with
  | [.d (.list xs), .d (.list ys)] => R (itZ xs ys) κ1
  | [.d (.tuple xs), .d (.tuple ys)] => R (itZ xs ys) κ1
  | _ => False
theorem ia_zip {a1 a2 : Expr} {elts : List Expr} {kk : Nat} {tpos q pos : Pos} (hg : Gl X "zip") (hm : X.mg "zip" = none) (ha : PAa K X [a1, a2] ta fa) (hs : starEach [a1, a2] X.env = (false, eval a1 X.env) :: starEach [a2] X.env := by rfl) (hpl : (backTo pos (starEach [a2] X.env)).any (·.1) = false := by rfl) (hK : X.K = K := by rfl) :
    PIa K X (.Tuple elts kk tpos) (.Call (.Name "zip" q) [a1, a2] [] pos) (RZ.iZipA K ta) (aZip fa) := by
  obtain ⟨K, Kn, KZ, Ku⟩ := K
  change X.K = K at hK
  subst hK
  exact ⟨RZ.pi_zipA hg hm ha.pa hs hpl, fun B ρ δ κ σ H R Q s g hh q => ha.sd _ _ _ _ _ _ _ _ s g hh fun B1 ρ1 κ1 H1 as vs w1 g1 r1 h1 => by
    split at h1
    · obtain ⟨x, y, rfl, r, r'⟩ := reps2 r1
      obtain ⟨p, vs, rfl, s1, d1⟩ := r.list
      obtain ⟨p', vs', rfl, s1', d1'⟩ := r'.list
      exact ⟨p, p', vs, vs', rfl, .inl ⟨g1.ex.seq s1, g1.ex.seq s1', q _ _ _ _ _ _ w1 g1 (ri_zipL s1 d1 s1' d1') h1⟩⟩
    · obtain ⟨x, y, rfl, r, r'⟩ := reps2 r1
      obtain ⟨p, vs, rfl, s1, d1⟩ := r.tuple
      obtain ⟨p', vs', rfl, s1', d1'⟩ := r'.tuple
      exact ⟨p, p', vs, vs', rfl, .inr ⟨sqt_up g1.ex s1, sqt_up g1.ex s1', q _ _ _ _ _ _ w1 g1 (ri_zipT s1 d1 s1' d1') h1⟩⟩
    · exact h1.elim⟩
/-! ### a text before another -/
def aLtS : AO := fun a b κ R => match a, b with
  | .d (.str s), .d (.str t) => R (.d (.bool (decide (s.cps.toList < t.cps.toList)))) κ
  | _, _ => False
theorem oa_ltS : OpA K X (compareOp .Lt) (fun x y H Q => ∃ i j, x = .str i ∧ y = .str j ∧ Q (.bl (decide (i.cps.toList < j.cps.toList))) H) aLtS := ⟨op_lt_str, by
  intro B ρ κ H x y a b R Q g rx ry h q
  unfold aLtS at h
  split at h
  · exact ⟨_, _, rx.str, ry.str, q.at0 g (rp_bl _) h⟩
  · exact h.elim⟩
end Ab
set_option Elab.async false
set_option linter.all false
set_option maxRecDepth 100000
set_option maxHeartbeats 4000000
/-! Ab32: sets of texts: set(xs) of a list or a tuple of texts, sorted -/
namespace Ab
open PySem PySem.Spec PyProof.Rows L2 PySem.Froz
section
variable {P : Program} {w : World} {A : Around} {E : Value → Shared → Prop} {s : Shared}
/-- the set at a holds the texts l, each once; it can be walked -/
def TxS (P : Program) (w : World) (h : Heap) (a : Addr) (l : List Str) : Prop := l.Nodup ∧ ∃ D : SD, h.get? a = some (sObj "set" D) ∧ TxOk P w D l ∧ Ris D.2.2.place.toList ∧ (w.params.followText "set-order" = true ∨ D.2.2.led = true)
theorem TxS.at' {h h' : Heap} {a : Addr} {l : List Str} (x : TxS P w h a l) (k : ∀ o, h.get? a = some o → h'.get? a = some o) : TxS P w h' a l := by
  obtain ⟨n, D, h1, r⟩ := x
  exact ⟨n, D, k _ h1, r⟩
theorem tail_ris (ep : Nat) (es : Array (Int × Value)) {t : SetTable} (b : Bool) (r : Ris t.place.toList) : Ris (tailTx ep es t b).2.2.place.toList := by
  unfold tailTx
  split
  · exact relayAll_ris t es _
  · exact r
theorem tail_led (ep : Nat) (es : Array (Int × Value)) (t : SetTable) (b : Bool) : (tailTx ep es t b).2.2.led = t.led := by
  unfold tailTx
  split
  · exact relayAll_led t es _
  · rfl
theorem plain_off (t : SetTable) : (if t.plain = true then { t with plain := false } else t).place = t.place ∧ (if t.plain = true then { t with plain := false } else t).led = t.led := by
  split <;> exact ⟨rfl, rfl⟩
theorem addTx_ris (h : Int) (v : Value) {D : SD} (r : Ris D.2.2.place.toList) : Ris (addTx h v D).2.2.place.toList := by
  unfold addTx
  refine tail_ris _ _ _ ?_
  rw [(plain_off _).1]
  exact layNew_ris _ _ _ _ r
theorem addTx_led (h : Int) (v : Value) (D : SD) : (addTx h v D).2.2.led = D.2.2.led := by
  unfold addTx
  rw [tail_led, (plain_off _).2]
  exact layNew_led _ _ _ _
/-- one more text -/
theorem tx_put {a : Addr} {l : List Str} {k : Str} {u : Tok} {Q : Bool → Shared → Prop} (x : TxS P w s.heap a l) (hb : l.length + 1 < scanBound)
    (q : ∀ h' b, Heap.SameBut a s.heap h' → TxS P w h' a (if k ∈ l then l else k :: l) → Q b { s with heap := h' }) : wpAny (model P w) A (setAddHashed a (.str k u) ((PySem.strKind P w).hash k)) Q E s := by
  obtain ⟨nd, D, h1, F, r, z⟩ := x
  by_cases hk : k ∈ l
  · rw [if_pos hk] at q
    obtain ⟨es, ep, t⟩ := D
    have e1 : es.size < scanBound := by
      have := F.sz
      have this : es.size = l.length := this
      omega
    have e2 : (PySem.strKind P w).is k (.str k u) = true := is_str k u
    have e3 : (sObj "set" (es, ep, t)).data = .set es ep t := rfl
    unfold setAddHashed setAddHashedIn; refine wpAny_holding (wpAny_bind (wpAny_setState_of h1 e3 F.fit ?_)); dsimp only
    rw [byScan_of rfl e1 F.el]; simp only [↓reduceIte]; unfold setAddByScan
    refine wpAny_bind (wpAny_bind (wpAny_rule (wpAny_bind (wpAny_setScan_of e2 h1 e3 F.fit F.el ?_))))
    obtain ⟨e, he, hp⟩ := (F.mem k).mp hk
    cases hf : List.findIdx? (fun e => (PySem.strKind P w).is k e.2) es.toList with
    | none =>
      have := List.findIdx?_eq_none_iff.mp hf e he
      rw [hp] at this
      cases this
    | some j => exact wpAny_pure (wpAny_pure (q s.heap _ (Heap.SameBut.refl a s.heap) ⟨nd, _, h1, F, r, z⟩))
  · rw [if_neg hk] at q
    refine add_x h1 F hk hb (q _ _ (Heap.SameBut.update s.heap a _) ⟨List.nodup_cons.mpr ⟨hk, nd⟩, _, get_upd _ h1 rfl, add_ok u F, addTx_ris _ _ r, z.imp id fun y => by rw [addTx_led]; exact y⟩)
/-- what the set holds behind i items -/
def Half (xs : List Str) (i : Nat) (l : List Str) : Prop := l.length ≤ i ∧ ∀ x, x ∈ l ↔ x ∈ xs.take i
theorem half_next {xs l : List Str} {i : Nat} {x : Str} (g : Half xs i l) (hx : xs[i]? = some x) : Half xs (i + 1) (if x ∈ l then l else x :: l) := by
  have ht : xs.take (i + 1) = xs.take i ++ [x] := by rw [List.take_add_one, hx]; rfl
  by_cases hm : x ∈ l
  · rw [if_pos hm]
    refine ⟨Nat.le_succ_of_le g.1, fun y => ?_⟩
    rw [ht, List.mem_append, List.mem_singleton, ← g.2 y]
    exact ⟨.inl, fun z => z.elim id fun e => e ▸ hm⟩
  · rw [if_neg hm]
    refine ⟨Nat.succ_le_succ g.1, fun y => ?_⟩
    rw [ht, List.mem_append, List.mem_singleton, ← g.2 y, List.mem_cons]
    exact Or.comm
theorem tx_loop {I : Addr} {fp wr : List Addr} {G : Array GenState → Array GenState → Prop} {n : Nat} {Pv : Nat → Value → Prop} {St : Nat → Shared → Prop} {R : Result → Shared → Prop}
    (W : WalksS P w A.in1 I fp wr G n Pv St) (S : Addr) (hS : S ∉ fp) (xs : List Str) (hn : n = xs.length) (hb : xs.length + 1 < scanBound) (hv : ∀ i v, Pv i v → ∃ x u, xs[i]? = some x ∧ v = .str x u) :
    ∀ (k i : Nat) (s s0 : Shared), n - i = k → i ≤ n → St i s → Moved (S :: wr) G s0 s → (∃ l, TxS P w s.heap S l ∧ Half xs i l) → (∀ s' l, Moved (S :: wr) G s0 s' → TxS P w s'.heap S l → Half xs n l → R (.ok (.ret .none)) s') →
      codeAny (model P w) A (.builtin "set.update.loop" ⟨[.ref S, .ref I], []⟩) R s := by
  have nS : S ∉ wr := fun h => hS (W.sub _ h)
  have up : ∀ b ∈ wr, b ∈ S :: wr := fun b hb => List.mem_cons_of_mem _ hb
  intro k
  induction k with
  | zero =>
    intro i s s0 hk hi st mv ⟨l, hl, g⟩ q
    obtain rfl : i = n := by omega
    refine codeAny_builtin F.entry_set_update_loop ?_; rw [Around.under_plainId F.plain_set_update_loop _]
    refine wpAny_bind (m := pyNext (.ref I)) (W.done s _ _ st fun s' hm => wpAny_pure (q s' l (Moved.trans W.gtrans mv (hm.mono up)) (hl.at' fun o e => hm.heap S o nS e) g))
  | succ k ih =>
    intro i s s0 hk hi st mv ⟨l, hl, g⟩ q
    have hi2 : i < n := by omega
    refine codeAny_builtin F.entry_set_update_loop ?_; rw [Around.under_plainId F.plain_set_update_loop _]
    refine wpAny_bind (m := pyNext (.ref I)) (W.item i s _ _ hi2 st fun v s' hP st' hm => ?_)
    obtain ⟨x, u, hx, rfl⟩ := hv i v hP
    have hl' : TxS P w s'.heap S l := hl.at' fun o e => hm.heap S o nS e
    refine wpAny_bind (m := holding [Value.str x u] (setAdd S (.str x u))) (wpAny_holding ?_)
    unfold setAdd
    refine wpAny_holding (wpAny_bind ((PySem.strKind P w).pyHash (k := x) (strKind_is _ _ _ _) ?_))
    refine tx_put (s := { s' with toks := s'.toks + 1 }) hl' (by have := g.1; omega) fun h' b sb hl2 => ?_
    refine wpAny_pure ⟨plainId_quiet F.plain_set_update_loop _, ih (i + 1) _ s0 (by omega) hi2 (W.frame _ s' _ _ st' (Nat.le_succ _) fun b hb o e => ?_) (Moved.trans W.gtrans mv ((hm.mono up).then_heap (Nat.le_succ _) fun b o hb e => ?_)) ⟨_, hl2, half_next g hx⟩ q⟩
    · rw [sb.2 b fun h => hS (h ▸ hb)]; exact e
    · rw [sb.2 b fun h => hb (h ▸ List.mem_cons_self)]; exact e
end
section
variable {P : Program} {w : World} {A : Around} {E : Value → Shared → Prop} {s : Shared}
/-- the new set -/
def set0 (w : World) : Obj := { cls := .type "set", dict := none, data := .set #[] 0 (.fresh 0 0 (!w.params.followText "set-order")) }
theorem set_call {l : Addr} {Post : Shared → Prop} {Q : Value → Shared → Prop}
    (init : wpAny (model P w) A.in1.in1 (Builtin.«set.__init__» ⟨[.ref s.heap.objs.size, .ref l], []⟩) (fun f s2 => match f with | .done f => wants (fun r s3 => r = .none ∧ Post s3) E (.ok f) s2 | .again c => c.quiet = true ∧ codeAny (model P w) A.in1 c (wants (fun r s3 => r = .none ∧ Post s3) E) s2) (fun e s2 => wants (fun r s3 => r = .none ∧ Post s3) E (.error e) s2) { s with heap := s.heap.push (set0 w) })
    (q : ∀ s2, Post s2 → Q (.ref s.heap.objs.size) s2) : wpAny (model P w) A (call (.type "set") [.ref l]) Q E s := by
  obtain ⟨c, tl, e1⟩ := F.called_set.mro
  have e2 := F.called_set.made; have e3 := F.called_set.sub; have e4 := F.called_set.notType; have e5 := F.called_set.canCreate; have e6 := F.typeCall_set_1 (.ref l)
  refine wpAny_call (codeAny_of_tree ?_); show wpAny _ _ (callAny (.type "set") _) _ _ _
  refine wpAny_pure ⟨Code.quiet_builtin _ (by decide +kernel), codeAny_builtin F.entry_type_call ?_⟩; rw [Around.under_plain (weight_type_call_type "set" [.ref l] []) rfl]
  repeat (any_goals (first | assumption | wp_step))
  refine codeAny_mono (code_set_led1 (.ref l) (E := E) (Q₁ := fun o s1 => o = .ref s.heap.objs.size ∧ s1 = { s with heap := s.heap.push (set0 w) }) ⟨rfl, rfl⟩) fun r s1 hr => ?_
  match r, hr with
  | .error e, hr => exact hr
  | .ok (.ret o), ⟨e7, e8⟩ =>
    subst e7; subst e8
    have hS : (s.heap.push (set0 w)).get? s.heap.objs.size = some (set0 w) := Heap.get?_push_size _ rfl
    have hT : Shared.TypeIs { s with heap := s.heap.push (set0 w) } (.ref s.heap.objs.size) "set" := ⟨_, hS, rfl⟩
    have e9 := F.called_set.init.lookup; have e10 := F.called_set.init.bind (.ref s.heap.objs.size)
    repeat (any_goals (first | assumption | wp_step))
    refine codeAny_mono (codeAny_call_builtin (R := wants (fun r s3 => r = .none ∧ Post s3) E) F.called_set.init.plain F.entry_set_init (check_set_init_1 hT init)) fun r2 s2 hr2 => ?_
    match r2, hr2 with
    | .error e, hr2 => exact hr2
    | .ok (.ret r), ⟨e11, hp⟩ =>
      subst e11
      repeat (any_goals (first | assumption | wp_step))
      exact q _ hp
end
section
variable {P : Program} {w : World} {A : Around} {E : Value → Shared → Prop} {s : Shared}
theorem tx_new {h : Heap} {a : Addr} (ho : h.get? a = some (set0 w)) : TxS P w h a [] := by
  refine ⟨List.nodup_nil, (#[], 0, .fresh 0 0 (!w.params.followText "set-order")), ho, TxOk.nil rfl, List.Pairwise.nil, ?_⟩
  show _ ∨ (!w.params.followText "set-order") = true
  cases w.params.followText "set-order"
  · exact .inr rfl
  · exact .inl rfl
theorem half_zero (xs : List Str) : Half xs 0 [] := ⟨Nat.le_refl _, fun x => by simp⟩
theorem strs_get {us : List Value} {xs : List Str} (h : StrsAre us xs) {i : Nat} {v : Value} (e : us[i]? = some v) : ∃ x u, xs[i]? = some x ∧ v = .str x u := by
  induction h generalizing i with
  | nil => cases e
  | cons x u _ ih =>
    cases i with
    | zero => cases e; exact ⟨x, u, rfl, rfl⟩
    | succ i => exact ih e
theorem no_old {h : Heap} {b : Addr} (hb : h.objs.size ≤ b) : h.get? b = none := by
  cases q : h.get? b with
  | none => rfl
  | some o => exact absurd (Nat.lt_of_lt_of_le (Heap.lt_size q) hb) (Nat.lt_irrefl _)
theorem set_list {l : Addr} {items : Array Value} {xs : List Str} {Q : Value → Shared → Prop} (hh : A.handled = none) (hl : s.heap.IsList l items) (hi : StrsAre items.toList xs) (hb : xs.length + 1 < scanBound)
    (q : ∀ h' tk t, TxS P w h' s.heap.objs.size t → Half xs xs.length t → (∀ b o, s.heap.get? b = some o → h'.get? b = some o) → Q (.ref s.heap.objs.size) { s with heap := h', toks := tk }) : wpAny (model P w) A (call (.type "set") [.ref l]) Q E s := by
  refine set_call (Post := fun s2 => ∃ h' tk t, s2 = { s with heap := h', toks := tk } ∧ TxS P w h' s.heap.objs.size t ∧ Half xs xs.length t ∧ ∀ b o, s.heap.get? b = some o → h'.get? b = some o) ?_ fun s2 ⟨h', tk, t, e, h1, h2, h3⟩ => by rw [e]; exact q h' tk t h1 h2 h3
  have hsz : items.size = xs.length := by rw [← StrsAre.len_eq hi, Array.length_toList]
  have hS : (s.heap.push (set0 w)).get? s.heap.objs.size = some (set0 w) := Heap.get?_push_size _ rfl
  have hT : Shared.TypeIs { s with heap := s.heap.push (set0 w) } (.ref s.heap.objs.size) "set" := ⟨_, hS, rfl⟩
  obtain ⟨ol, o1, o2, nl, o3⟩ := hl
  obtain ⟨ocls, odict, odata, oslots⟩ := ol
  simp only at o2 o3
  subst o2; subst o3
  have o4 := Heap.get?_push_of_some (set0 w) o1
  have o5 := F.sub_list_set; have o6 := F.sub_list_frozenset
  have o7 : (Value.type "list" == Value.type "dict") = false := by decide
  have lS : l < s.heap.objs.size := Heap.lt_size o1
  have l1 : (s.heap.push (set0 w)).IsList l items := ⟨_, o4, rfl, nl, rfl⟩
  unfold Builtin.«set.__init__» noKeywords Builtin.Frozenset.updateFrom
  generalize hPI : pyIter = PI
  wp_walk
  subst hPI
  have z1 : (s.heap.push (set0 w)).objs.size = s.heap.objs.size + 1 := Heap.size_push ..
  refine wpAny_pyIter_list l1 (wpAny_bind (wpAny_runValue ?_))
  have ne1 : l ≠ (s.heap.push (set0 w)).objs.size := by rw [z1]; exact Nat.ne_of_lt (Nat.lt_succ_of_lt lS)
  refine tx_loop ((Walks.list (by simp [hh]) _ l ne1 items).toS) s.heap.objs.size (fun z => ?_) xs hsz hb (fun i v hv => strs_get hi (by rw [Array.getElem?_toList]; exact hv)) (items.size - 0) 0 _ _ (by omega) (Nat.zero_le _)
    ⟨⟨_, Heap.get?_push_size _ rfl, rfl, rfl⟩, l1.push _⟩ ⟨fun _ _ _ e => e, rfl, rfl, rfl, Nat.le_refl _⟩ ⟨[], tx_new (Heap.get?_push_of_some _ hS), half_zero xs⟩ fun s' t mv ht g => ?_
  · rw [z1] at z
    rcases List.mem_cons.mp z with z | z
    · exact Nat.succ_ne_self _ z.symm
    · exact Nat.lt_irrefl _ (List.mem_singleton.mp z ▸ lS)
  · obtain ⟨h', g2, d', tk', os'⟩ := s'
    obtain ⟨m1, m2, m3, m4, _⟩ := mv
    simp only at m2 m3 m4
    subst m2; subst m3; subst m4
    rw [hsz] at g
    show wpAny _ _ _ _ _ _; refine wpAny_pure ?_; show wpAny _ _ (ret Value.none) _ _ _; refine wpAny_pure ⟨rfl, h', tk', t, rfl, ht, g, fun b o e => m1 b o (fun z => ?_) (Heap.get?_push_of_some _ (Heap.get?_push_of_some _ e))⟩
    have bl := Heap.lt_size e
    rcases List.mem_cons.mp z with z | z
    · exact Nat.lt_irrefl _ (z ▸ bl)
    · have z := List.mem_singleton.mp z
      rw [z] at bl
      exact Nat.lt_irrefl _ (Nat.lt_trans (Nat.lt_of_lt_of_eq (Nat.lt_succ_self _) z1.symm) bl)
theorem set_tup {l : Addr} {items : Array Value} {xs : List Str} {Q : Value → Shared → Prop} (hh : A.handled = none) (hl : s.heap.IsTuple l items) (hi : StrsAre items.toList xs) (hb : xs.length + 1 < scanBound)
    (q : ∀ h' tk t, TxS P w h' s.heap.objs.size t → Half xs xs.length t → (∀ b o, s.heap.get? b = some o → h'.get? b = some o) → Q (.ref s.heap.objs.size) { s with heap := h', toks := tk }) : wpAny (model P w) A (call (.type "set") [.ref l]) Q E s := by
  refine set_call (Post := fun s2 => ∃ h' tk t, s2 = { s with heap := h', toks := tk } ∧ TxS P w h' s.heap.objs.size t ∧ Half xs xs.length t ∧ ∀ b o, s.heap.get? b = some o → h'.get? b = some o) ?_ fun s2 ⟨h', tk, t, e, h1, h2, h3⟩ => by rw [e]; exact q h' tk t h1 h2 h3
  have hsz : items.size = xs.length := by rw [← StrsAre.len_eq hi, Array.length_toList]
  have hS : (s.heap.push (set0 w)).get? s.heap.objs.size = some (set0 w) := Heap.get?_push_size _ rfl
  have hT : Shared.TypeIs { s with heap := s.heap.push (set0 w) } (.ref s.heap.objs.size) "set" := ⟨_, hS, rfl⟩
  obtain ⟨ol, o1, o2, nl, o3⟩ := hl
  obtain ⟨ocls, odict, odata, oslots⟩ := ol
  simp only at o2 o3
  subst o2; subst o3
  have o4 := Heap.get?_push_of_some (set0 w) o1
  have o5 := F.sub_tuple_set; have o6 := F.sub_tuple_frozenset
  have o7 : (Value.type "tuple" == Value.type "dict") = false := by decide
  have lS : l < s.heap.objs.size := Heap.lt_size o1
  have l1 : (s.heap.push (set0 w)).IsTuple l items := ⟨_, o4, rfl, nl, rfl⟩
  unfold Builtin.«set.__init__» noKeywords Builtin.Frozenset.updateFrom
  generalize hPI : pyIter = PI
  wp_walk
  subst hPI
  have z1 : (s.heap.push (set0 w)).objs.size = s.heap.objs.size + 1 := Heap.size_push ..
  refine wpAny_pyIter_tuple l1 (wpAny_bind (wpAny_runValue ?_))
  have ne1 : l ≠ (s.heap.push (set0 w)).objs.size := by rw [z1]; exact Nat.ne_of_lt (Nat.lt_succ_of_lt lS)
  refine tx_loop ((Walks.tuple (by simp [hh]) _ l ne1 items).toS) s.heap.objs.size (fun z => ?_) xs hsz hb (fun i v hv => strs_get hi (by rw [Array.getElem?_toList]; exact hv)) (items.size - 0) 0 _ _ (by omega) (Nat.zero_le _)
    ⟨⟨_, Heap.get?_push_size _ rfl, rfl, rfl⟩, l1.push _⟩ ⟨fun _ _ _ e => e, rfl, rfl, rfl, Nat.le_refl _⟩ ⟨[], tx_new (Heap.get?_push_of_some _ hS), half_zero xs⟩ fun s' t mv ht g => ?_
  · rw [z1] at z
    rcases List.mem_cons.mp z with z | z
    · exact Nat.succ_ne_self _ z.symm
    · exact Nat.lt_irrefl _ (List.mem_singleton.mp z ▸ lS)
  · obtain ⟨h', g2, d', tk', os'⟩ := s'
    obtain ⟨m1, m2, m3, m4, _⟩ := mv
    simp only at m2 m3 m4
    subst m2; subst m3; subst m4
    rw [hsz] at g
    show wpAny _ _ _ _ _ _; refine wpAny_pure ?_; show wpAny _ _ (ret Value.none) _ _ _; refine wpAny_pure ⟨rfl, h', tk', t, rfl, ht, g, fun b o e => m1 b o (fun z => ?_) (Heap.get?_push_of_some _ (Heap.get?_push_of_some _ e))⟩
    have bl := Heap.lt_size e
    rcases List.mem_cons.mp z with z | z
    · exact Nat.lt_irrefl _ (z ▸ bl)
    · have z := List.mem_singleton.mp z
      rw [z] at bl
      exact Nat.lt_irrefl _ (Nat.lt_trans (Nat.lt_of_lt_of_eq (Nat.lt_succ_self _) z1.symm) bl)

theorem perm_of_sub {α : Type} [DecidableEq α] : ∀ {l ks : List α}, l.Nodup → (∀ x ∈ l, x ∈ ks) → ks.length ≤ l.length → l.Perm ks
  | [], ks, _, _, h => by
    rw [List.eq_nil_of_length_eq_zero (Nat.le_zero.mp h)]
  | x :: l, ks, nd, hs, h => by
    obtain ⟨n1, n2⟩ := List.nodup_cons.mp nd
    have hx := hs x (List.mem_cons_self ..)
    have pe := List.perm_cons_erase hx
    have := pe.length_eq
    rw [List.length_cons] at this h
    refine (List.Perm.cons x (perm_of_sub n2 (fun y hy => ?_) (by omega))).trans pe.symm
    have hy' := hs y (List.mem_cons_of_mem _ hy)
    exact (List.mem_erase_of_ne fun e => n1 (by rw [← e]; exact hy)).mpr hy'
theorem strs_all : ∀ {vs : List Value}, (∀ v ∈ vs, ∃ k u, v = .str k u) → StrsAre vs (vs.map strOf)
  | [], _ => .nil
  | v :: vs, h => by
    obtain ⟨k, u, e⟩ := h v (List.mem_cons_self ..)
    subst e
    exact .cons k u (strs_all fun x hx => h x (List.mem_cons_of_mem _ hx))
theorem tx_vals {D : SD} {l : List Str} (F : TxOk P w D l) (nd : l.Nodup) : (∀ v ∈ D.1.toList.map (·.2), ∃ k u, v = Value.str k u) ∧ ((D.1.toList.map (·.2)).map strOf).Perm l := by
  have h1 : ∀ e ∈ D.1.toList, ∃ k u, e.2 = Value.str k u := fun e he => by
    obtain ⟨⟨k, hk, _⟩, _⟩ := F.el e he
    have hk : Value.isStrOf k e.2 = true := hk
    unfold Value.isStrOf at hk
    split at hk
    · exact ⟨_, _, by assumption⟩
    · cases hk
  refine ⟨fun v hv => ?_, (perm_of_sub nd (fun k hk => ?_) ?_).symm⟩
  · obtain ⟨e, he, rfl⟩ := List.mem_map.mp hv
    exact h1 e he
  · obtain ⟨e, he, hp⟩ := (F.mem k).mp hk
    obtain ⟨k', u, e2⟩ := h1 e he
    have hp : Value.isStrOf k e.2 = true := hp
    rw [e2] at hp
    have : k' = k := by simpa [Value.isStrOf] using hp
    exact List.mem_map.mpr ⟨_, List.mem_map.mpr ⟨e, he, rfl⟩, by rw [e2, ← this]; rfl⟩
  · rw [List.length_map, List.length_map, Array.length_toList]
    exact Nat.le_of_eq F.sz
theorem tx_sorted {a : Addr} {t : List Str} {Q : Value → Shared → Prop} (x : TxS P w s.heap a t) (hh : A.handled = none) (h64 : t.length < 64)
    (q : ∀ s' p (out : Array Value) c ys, (∀ b o, s.heap.get? b = some o → s'.heap.get? b = some o) → s'.gens = s.gens → s'.os = s.os → s.heap.objs.size ≤ p → s'.heap.get? p = some (seqObj "list" out c) → StrsAre out.toList ys → ys.Perm t → sortedS ys = true → Q (.ref p) s') :
    wpAny (model P w) A (call (.builtin "sorted") [.ref a]) Q E s := by
  obtain ⟨nd, D, h1, F, r, z⟩ := x
  obtain ⟨v1, v2⟩ := tx_vals F nd
  have hsz : D.1.size = t.length := F.sz
  refine Calls.call_function_entry kind_sorted plain_sorted entry_sorted (args_sorted1 _) ?_; unfold Builtin.«sorted»
  refine wpAny_bind (m := checkCount "sorted" 1 1 _) (wpAny_pure (wpAny_bind (collect_set (A := A.in1) hh ⟨_, h1, rfl, rfl⟩ F.fit (by unfold scanBound; omega) r z fun s1 vs k1 hz g1 o1 pm => ?_)))
  have hI : StrsAre vs (vs.map strOf) := strs_all fun v hv => v1 v (pm.mem_iff.mp hv)
  have hl : vs.length < 64 := by rw [pm.length_eq, List.length_map, Array.length_toList, hsz]; exact h64
  have hp : (vs.map strOf).Perm t := (pm.map strOf).trans v2
  refine wpAny_bind (wpAny_newList ?_ (by rw [sizeLine_eq]; omega))
  have hoL : (s1.heap.push (seqObj "list" vs.toArray 0)).get? s1.heap.objs.size = some (seqObj "list" vs.toArray 0) := Heap.get?_push_size _ rfl
  refine wpAny_bind (wpAny_holding (wpAny_call_entry slot_list_sort ⟨_, hoL, rfl⟩ entry_list_sort (list_sort_treeK strKind_oneLt hoL hI.keysOf (fun v₁ v₂ rest e => keyKind_strs (by rw [← e]; exact hI)) hl fun st a1 a2 => ⟨_, rfl, ?_⟩) (args_list_sort _)))
  obtain ⟨ys, b1, b2, b3⟩ := sorted_out_str hI a1 a2
  obtain ⟨c, hc⟩ := sortedHeap_at (vs := vs) (out := (arrOf st).map (·.2)) hoL
  refine wpAny_pure ⟨_, rfl, q _ s1.heap.objs.size _ c ys (fun b u e => ?_) g1 o1 hz hc b1 (b2.trans hp) b3⟩
  have lt := Heap.lt_size (k1 b u e)
  show (sortedHeap (s1.heap.push (seqObj "list" vs.toArray 0)) s1.heap.objs.size vs _).get? b = some u
  rw [sortedHeap_old (Nat.ne_of_lt lt) (by rw [size_push']; exact Nat.lt_succ_of_lt lt)]
  exact Heap.get?_push_of_some _ (k1 b u e)
end
/-! ### sorted(set(xs)) -/
section
variable {X : Cx}
def tSortSet (K : PySem.W.Frag) (ta : TE) : TE := fun σ H Q => ta σ H fun x H1 => ∃ (l : Addr) (xs : List Str), x = V.ref l ∧ (SqL K H1 l (xs.map V.str) ∨ SqT K H1 l (xs.map V.str)) ∧ xs.length < 64 ∧
  ∀ (ys : List Str) (p : Addr), ys.Nodup → (∀ x, x ∈ ys ↔ x ∈ xs) → sortedS ys = true → H1 p = none → Q (.ref p) (upd H1 p (.lst (ys.map V.str)))
theorem pe_sortSet {a : Expr} {ta : TE} {p p2 q pos : Pos} (hc : X.calm = true) (hg : Gl X "sorted") (hm : X.mg "sorted" = none) (hg2 : Gl X "set") (hm2 : X.mg "set" = none) (ha : PE X a ta)
    (na : starEach [a] X.env = (false, eval a X.env) :: starEach [] X.env := by rfl) : PE X (.Call (.Name "sorted" p) [.Call (.Name "set" p2) [a] [] q] [] pos) (tSortSet X.K ta) := by
  refine ⟨fun pins s σ H Q I h => Call_ (ld_blt I hg hm boot_sorted ?_)⟩
  refine PyProof.Rows.callWith_builtin1 (PyProof.Rows.args_cons (Call_ (ld_blt I hg2 hm2 PyProof.Rows.boot_set ?_)) rfl) rfl rfl
  refine PyProof.Rows.callWith_type1 (PyProof.Rows.args_cons (thn (ha.run pins s σ H _ I h) fun v s1 ⟨x, H1, I1, r1, q1⟩ => PyProof.Rows.args_nil ?_) na) na rfl
  obtain ⟨l, xs, rfl, hq, h1, q1⟩ := q1
  cases r1
  have go : ∀ h' tk t, TxS X.prog X.w h' s1.heap.objs.size t → Half xs xs.length t → (∀ b o, s1.heap.get? b = some o → h'.get? b = some o) →
      wpAny (model X.prog X.w) X.A (spliced (backTo pos (starEach [] X.env))) (fun vs s2 => wpAny (model X.prog X.w) X.A (call (.builtin "sorted") (Value.ref s1.heap.objs.size :: vs)) (fun v s' => ∃ x H', Inv X pins σ H' s' ∧ RelV x v ∧ Q x H') X.xe s2) X.xe { s1 with heap := h', toks := tk } := by
    intro h' tk t ht g k
    refine PyProof.Rows.args_nil (tx_sorted ht (I1.ok.hd hc) (Nat.lt_of_le_of_lt g.1 h1) fun s' p2 out c ys kk e1 e2 hp ho hs pm so => ?_)
    have I2 : Inv X pins σ H1 { s1 with heap := h', toks := tk } := I1.kept k
    have hn : H1 p2 = none := I2.hok.fresh hp
    have hlen : (ys.map V.str).length ≤ sizeLine := by rw [List.length_map, pm.length_eq]; exact small64 (Nat.lt_of_le_of_lt g.1 h1)
    refine ⟨.ref p2, upd H1 p2 (.lst (ys.map V.str)), I2.call' e2 (ch := []) (Un.laid kk hp hn) (I2.hok.laid kk hp ⟨hlen, out.toList, c, vals_of_strs hs, ho⟩) (by rw [e1]; exact I2.bare) (fun _ z => nomatch z), rfl, q1 ys p2 (pm.nodup_iff.mpr ht.1) (fun x => ?_) so hn⟩
    rw [pm.mem_iff, g.2 x, List.take_length]
  rcases hq with hq | hq
  · obtain ⟨its, r, pl, hz⟩ := I1.list hq
    exact set_list (I1.ok.hd hc) pl.isList (xs := xs) (by simpa using r.strs) (by unfold scanBound; omega) go
  · obtain ⟨its, r, pl, hz⟩ := I1.tuple hq
    exact set_tup (I1.ok.hd hc) pl (xs := xs) (by simpa using r.strs) (by unfold scanBound; omega) go
end
section
variable {K : Frg} {B B' B2 H H' H2 : Hp} {ρ ρ' ρ2 : List Addr} {κ κ' : AK} {δ : AD} {σ : L2.St} {p : Addr} {k : Nat} {v x y z : V} {a b c : AV}
variable {X : Cx} {e e2 : Expr} {t u : TE} {f f2 : AE} {pos : Pos}
def SetD (ds : List PyData) (R : PyData → Prop) : Prop := ∃ xs : List Str, ds = xs.map .str ∧ xs.length < 64 ∧ ∀ ys : List Str, ys.Nodup → (∀ x, x ∈ ys ↔ x ∈ xs) → sortedS ys = true → R (.list (ys.map .str))
def aSortSet (f : AE) : AE := fun δ κ R => f δ κ fun a κ1 => match a with
  | .d (.list ds) => SetD ds fun x => R (.d x) κ1
  | .d (.tuple ds) => SetD ds fun x => R (.d x) κ1
  | .c k => match κ1[k]? with
    | some (.ld ds) => SetD ds fun x => R (.d x) κ1
    | _ => False
  | _ => False
theorem ea_sortSet {p p2 q : Pos} (hc : X.calm = true) (hg : Gl X "sorted") (hm : X.mg "sorted" = none) (hg2 : Gl X "set") (hm2 : X.mg "set" = none) (h : PEa K X e t f) (na : starEach [e] X.env = (false, eval e X.env) :: starEach [] X.env := by rfl) (hK : X.K = K := by rfl) :
    PEa K X (.Call (.Name "sorted" p) [.Call (.Name "set" p2) [e] [] q] [] pos) (tSortSet K t) (aSortSet f) := by
  obtain ⟨K, Kn, KZ, Ku⟩ := K
  change X.K = K at hK
  subst hK
  refine ⟨pe_sortSet hc hg hm hg2 hm2 h.pe na, fun B ρ δ κ σ H R Q s g hh q => h.sd B ρ δ κ σ H _ _ s g hh fun B1 ρ1 κ1 H1 a x u1 g1 r1 h1 => ?_⟩
  have fin : ∀ {ds : List PyData} {vs : List V} {l : Addr}, x = .ref l → (SqL X.K H1 l vs ∨ SqT X.K H1 l vs) → DpAll X.K B1 vs ds → SetD ds (fun y => R (.d y) κ1) → ∃ (l : Addr) (xs : List Str), x = V.ref l ∧ (SqL X.K H1 l (xs.map V.str) ∨ SqT X.K H1 l (xs.map V.str)) ∧ xs.length < 64 ∧
      ∀ (ys : List Str) (p : Addr), ys.Nodup → (∀ x, x ∈ ys ↔ x ∈ xs) → sortedS ys = true → H1 p = none → Q (.ref p) (upd H1 p (.lst (ys.map V.str))) := by
    rintro ds vs l ex hs hd ⟨xs, rfl, h64, hr⟩
    have := dpa_strs_eq (K := Frg.of X.K) hd
    subst this
    refine ⟨l, xs, ex, hs, h64, fun ys p nd hm so hn => ?_⟩
    obtain ⟨u2, g2, r2⟩ := new_lst g1 hn (dpa_strs_of (K := Frg.of X.K) (B := B1) ys)
    exact q _ _ _ _ _ _ (u1.trans u2) g2 r2 (hr ys nd hm so)
  split at h1
  · obtain ⟨p, vs, e1, s1, d1⟩ := of_listG g1 r1
    exact fin e1 (.inl s1) d1 h1
  · obtain ⟨p, vs, e1, s1, d1⟩ := of_tupG g1 r1
    exact fin e1 (.inr s1) d1 h1
  · obtain ⟨p, hp, e1⟩ := r1
    split at h1
    · rename_i ds ek
      obtain ⟨p', hp', _, vs, r, eH⟩ := g1.cell ek
      rw [hp] at hp'; cases hp'
      exact fin e1 (.inl (.inl (.inl eH))) r h1
    · exact h1.elim
  · exact h1.elim
end
end Ab
set_option Elab.async false
set_option linter.all false
set_option maxRecDepth 100000
set_option maxHeartbeats 4000000
/-! Ab33: a, *b = a tuple; f(a, *b), f(*a) -/
namespace Ab
open PySem PySem.Spec PyProof.Rows L2
variable {K : Frg} {B B' B2 H H' H2 : Hp} {ρ ρ' ρ2 : List Addr} {κ κ' : AK} {δ : AD} {σ : L2.St} {p : Addr} {k : Nat} {v x y z : V} {a b c : AV}
variable {X : Cx} {e e2 : Expr} {es : List Expr} {t u : TE} {f f2 : AE} {ta : TA} {fa : AA} {pos : Pos}
theorem star_tail {prog : Program} {w : World} {A : Around} {E : Value → Shared → Prop} {s : Shared} {l : Addr} {its : List Value} {z : Value} {Q : List Value → Shared → Prop} (hl : IsTup s.heap l (z :: its).toArray) (hh : A.handled = none) (hz : (z :: its).length ≤ sizeLine)
    (h : ∀ (h' : Heap) (tk : Nat), (∀ b o, s.heap.get? b = some o → h'.get? b = some o) → Q [z, .ref h'.objs.size] { s with heap := h'.push ({ cls := .type "list", data := .seq its.toArray } : Obj), toks := tk }) : wpAny (model prog w) A (unpackItems (.ref l) 2 (some 1)) Q E s := by
  have hlt : l ≠ s.heap.objs.size := by obtain ⟨o, ho, _⟩ := hl; exact Nat.ne_of_lt (Heap.lt_size ho)
  unfold unpackItems; refine wpAny_bind ?_
  unfold notIterableAtAll; refine wpAny_bind (wpAny_specialOf hl.typeIs PySem.F.slot_tuple_iter.lookup (wpAny_pure ?_))
  simp only [Bool.false_eq_true, if_false]
  refine wpAny_bind (wpAny_holding (iter_tuple hl (wpAny_bind (wpAny_holding (draw_tuple hlt 1 0 _ _ ⟨_, Heap.get?_push_size _ rfl, rfl, rfl⟩ (hl.push _) (by simp) fun h₁ i1 s1 => ?_)))))
  have l1 : IsTup h₁ l (z :: its).toArray := (hl.push _).extBut s1.extBut hlt
  have i2 := i1; have l2 := l1
  obtain ⟨oi, hoi, _⟩ := i2; obtain ⟨ol, hol, _⟩ := l2
  have e1 : ((z :: its).toArray.toList.drop 0).take 1 = [z] := by simp
  rw [e1, if_neg (by simp)]
  refine wpAny_bind (wpAny_holding (PySem.W.kun_collect (s := { s with heap := h₁ }) (T := "tuple_iterator") (.inr (.inr (.inr rfl))) (Walks.tuple (A := A.in1) hh s.heap.objs.size l hlt (z :: its).toArray) (fun j u st => st.1.typeIs) (k := 1) (by simp) ⟨i1, l1⟩ (Heap.lt_size hoi) (Heap.lt_size hol) (fun h₂ tk hk => ?_) (by simpa using hz)))
  have e2 : (z :: its).toArray.toList.drop 1 = its := by simp
  rw [e2]
  show wpAny _ _ (if its.length < 2 - 1 - 1 then _ else _) _ _ _
  rw [if_neg (by simp)]
  show wpAny _ _ (newList (its.take (its.length - (2 - 1 - 1))) >>= fun d => pure ([z] ++ [d] ++ its.drop (its.length - (2 - 1 - 1)))) _ _ _
  have e3 : its.length - (2 - 1 - 1) = its.length := rfl
  rw [e3, List.take_length, List.drop_length]
  refine wpAny_bind (wpAny_newList (s := { s with heap := h₂, toks := tk }) (wpAny_pure (h h₂ tk fun b o e => ?_)) (by simp at hz; omega))
  exact hk b o (Nat.ne_of_lt (Heap.lt_size e)) (s1.extBut b o (Nat.ne_of_lt (Heap.lt_size e)) (Heap.get?_push_of_some _ e))
/-- a, *b = a tuple: the first one and a new list -/
def gStarT (K : PySem.W.Frag) (t : TGs) : TG := fun v σ H Q => ∃ a xs z, v = .ref a ∧ SqT K H a (z :: xs) ∧ ∀ p, H p = none → t [z, .ref p] σ (upd H p (.lst xs)) Q
theorem pg_starT {e1 e2 : Expr} {kk : Nat} {p1 : Pos} {t : TGs} (hc : X.calm = true) (h : PGs X [e1, e2] t)
    (hn : (assignEach [e1, .Starred e2 p1] X.env).length = 2 := by rfl) (hst : (assignEach [e1, .Starred e2 p1] X.env).findIdx? (·.1) = some 1 := by rfl)
    (hm : (assignEach [e1, .Starred e2 p1] X.env).map (·.2) = (assignEach [e1, e2] X.env).map (·.2) := by rfl) : PG X (.Tuple [e1, .Starred e2 p1] kk pos) (gStarT X.K t) := by
  refine ⟨fun pins s σ H v u Q I r hw => ?_⟩
  obtain ⟨a, xs, z, rfl, hq, hw⟩ := hw
  cases r
  obtain ⟨its, rv, pl, hz⟩ := I.tuple hq
  cases rv with
  | cons rz r1 =>
    rename_i uz u1
    rw [PyProof.Rows.assign_Tuple]; refine wpAny_bind (wpAny_standAt ?_); unfold unpack; rw [hn, hst, hm]
    have hz' : (uz :: u1).length ≤ sizeLine := by have := r1.length; simp at hz ⊢; omega
    refine wpAny_bind (wpAny_holding (star_tail pl (I.ok.hd hc) hz' fun h' tk hk => ?_))
    have I1 : Inv X pins σ H { s with heap := h', toks := tk } := I.kept hk
    have hf : H h'.objs.size = none := I1.hok.fresh (Nat.le_refl _)
    have I2 : Inv X pins σ (upd H h'.objs.size (.lst xs)) { s with heap := h'.push ({ cls := .type "list", data := .seq u1.toArray } : Obj), toks := tk } :=
      I1.laid (t' := tk) (fun b u e => Heap.get?_push_of_some _ e) (Nat.le_refl _) ⟨by rw [r1.length]; simp at hz'; omega, u1, 0, r1, Heap.get?_push_size _ rfl⟩
    exact h.run pins _ σ _ _ _ Q I2 (.cons rz (.cons (show RelV (V.ref h'.objs.size) (Value.ref h'.objs.size) from rfl) .nil)) (hw _ hf)
def aGStarT (gs : AGs) : AG := fun a δ κ R => match a with
  | .d (.tuple (z :: ds)) => gs [.d z, .d (.list ds)] δ κ R
  | _ => False
theorem ga_starT {e1 e2 : Expr} {kk : Nat} {p1 : Pos} {tgs : TGs} {ags : AGs} (hc : X.calm = true) (h : PGsa K X [e1, e2] tgs ags)
    (hn : (assignEach [e1, .Starred e2 p1] X.env).length = 2 := by rfl) (hst : (assignEach [e1, .Starred e2 p1] X.env).findIdx? (·.1) = some 1 := by rfl)
    (hm : (assignEach [e1, .Starred e2 p1] X.env).map (·.2) = (assignEach [e1, e2] X.env).map (·.2) := by rfl) (hK : X.K = K := by rfl) : PGa K X (.Tuple [e1, .Starred e2 p1] kk pos) (gStarT K tgs) (aGStarT ags) := by
  obtain ⟨K, Kn, KZ, Ku⟩ := K
  change X.K = K at hK
  subst hK
  refine ⟨pg_starT hc h.pg hn hst hm, fun B ρ δ κ σ H a v R Q s g r hh q => ?_⟩
  unfold aGStarT at hh
  split at hh
  · rename_i z ds
    obtain ⟨p, vs, rfl, s1, d1⟩ := of_tupG g r
    cases d1 with
    | cons dz d2 =>
      refine ⟨p, _, _, rfl, s1, fun p' hp' => ?_⟩
      obtain ⟨u4, g4, r4⟩ := new_lst g hp' d2
      have rz : Rep X.K _ ρ (.d z) _ := dp_up u4.s _ _ dz
      exact h.sd _ _ _ _ _ _ _ _ _ _ (s.up u4.g) g4 (.cons rz (.cons r4 .nil)) hh fun _ _ _ _ _ _ u5 => q _ _ _ _ _ _ (u4.trans u5)
  · exact hh.elim
/-! ### calls with a star -/
section
variable {CX : CXT} {fa' : Addr} {fd : FuncData} {ps : List Str} {l : Nat} {x' : Str} {q : Pos} {F : FSp} {E : XK} {sp : Sp} {j : Nat} {ds : List Value} {dvs : List V} {sp_ : Pos}
theorem pe_callS (F : FnOk X.prog X.w X.K X.mg X.base CX j fa' fd ps sp) (hr : Room j X.A) (hg : Gl X x') (hm : X.mg x' = some (.ref fa')) (hk : PySem.W.keepIn X.K (.ref fa') = true) (hb : Binds X.K fd ps ds) (hd : Vals dvs ds) (hx : Passes CX X E)
    (ha : PA X (e :: es) ta) (hdb : (x' == ("__debug__" : Str)) = false := by decide) (he : starEach (e :: es) X.env = (false, eval e X.env) :: starEach es X.env := by rfl) (hst : (backTo pos (starEach es X.env)).any (·.1) = true := by rfl) :
    PE X (.Call (.Name x' q) (e :: es) [] pos) (tCall sp dvs E ta) :=
  ⟨fun pins s σ H Q I h => wpAny_Call_Name_kw (ld_glob I hg hm (PySem.W.callWith_S2 (h₀ := X.base) I.ok.mod.kin hk (thn (ha.run pos pins s σ H _ I h) fun us s1 ⟨vs, H1, I1, r, q⟩ => ⟨I1.kIn, run_fn F hr hb hd hx I1 r q⟩) he hst) hdb)⟩
theorem pe_callS0 (F : FnOk X.prog X.w X.K X.mg X.base CX j fa' fd ps sp) (hr : Room j X.A) (hg : Gl X x') (hm : X.mg x' = some (.ref fa')) (hk : PySem.W.keepIn X.K (.ref fa') = true) (hb : Binds X.K fd ps ds) (hd : Vals dvs ds) (hx : Passes CX X E)
    (he : PE X e t) (hdb : (x' == ("__debug__" : Str)) = false := by decide) (hst : starEach [.Starred e sp_] X.env = [(true, eval e X.env)] := by rfl) :
    PE X (.Call (.Name x' q) [.Starred e sp_] [] pos) (tCall sp dvs E (StX.tStar X.K t tNil)) := by
  refine ⟨fun pins s σ H Q I h => wpAny_Call_Name_kw (ld_glob I hg hm (PySem.W.callWith_S (h₀ := X.base) I.ok.mod.kin hk (thn (he.run pins s σ H _ I h) fun v s1 ⟨y, H1, I1, ry, a, xs, ey, hxs, q⟩ => ?_) hst) hdb)⟩
  subst ey
  obtain rfl : v = Value.ref a := ry
  have q : sp ((xs ++ []) ++ dvs) H1 Q E := q
  rw [List.append_nil] at q
  exact StX.star_any I1 hxs fun us s2 I2 rv => ⟨I2.kIn, run_fn F hr hb hd hx I2 rv q⟩
theorem ea_callS (Fo : FnOk X.prog X.w X.K X.mg X.base CX0 l fa' fd ps (spA K F)) (hr : Room l X.A) (hg : Gl X x') (hm : X.mg x' = some (.ref fa')) (hk : PySem.W.keepIn X.K (.ref fa') = true) (hb : Binds X.K fd ps []) (ha : PAa K X (e :: es) ta fa)
    (hdb : (x' == ("__debug__" : Str)) = false := by decide) (he : starEach (e :: es) X.env = (false, eval e X.env) :: starEach es X.env := by rfl) (hst : (backTo pos (starEach es X.env)).any (·.1) = true := by rfl) (hK : X.K = K := by rfl) :
    PEa K X (.Call (.Name x' q) (e :: es) [] pos) (tCall (spA K F) [] E0 ta) (aCall F (fun _ _ => False) fa) := by
  obtain ⟨K, Kn, KZ, Ku⟩ := K
  change X.K = K at hK
  subst hK
  exact ⟨pe_callS Fo hr hg hm hk hb .nil pass0 ha.pa hdb he hst, se_call ha.sd fun _ _ _ _ _ _ _ _ h => h.elim⟩
theorem ea_callS0 (Fo : FnOk X.prog X.w X.K X.mg X.base CX0 l fa' fd ps (spA K F)) (hr : Room l X.A) (hg : Gl X x') (hm : X.mg x' = some (.ref fa')) (hk : PySem.W.keepIn X.K (.ref fa') = true) (hb : Binds X.K fd ps []) (he : PEa K X e t f)
    (hdb : (x' == ("__debug__" : Str)) = false := by decide) (hst : starEach [.Starred e sp_] X.env = [(true, eval e X.env)] := by rfl) (hst2 : starEach (.Starred e sp_ :: []) X.env = (true, eval e X.env) :: starEach [] X.env := by rfl) (hK : X.K = K := by rfl) :
    PEa K X (.Call (.Name x' q) [.Starred e sp_] [] pos) (tCall (spA K F) [] E0 (StX.tStar K t tNil)) (aCall F (fun _ _ => False) (aStar f aNil)) := by
  obtain ⟨K, Kn, KZ, Ku⟩ := K
  change X.K = K at hK
  subst hK
  exact ⟨pe_callS0 Fo hr hg hm hk hb .nil pass0 he.pe hdb hst, se_call (aa_star he aa_nil hst2).sd fun _ _ _ _ _ _ _ _ h => h.elim⟩
end
end Ab
set_option Elab.async false
set_option linter.all false
set_option maxRecDepth 100000
set_option maxHeartbeats 4000000
/-! Jud: certificates judged; drawn runs and papers -/
namespace Tab
open PySem L2 Ab Com
variable {K : PySem.W.Frag}
/-! ### data that can be compared -/
theorem layN {n : Nat} {ds : List PyData} (h : ∀ d ∈ ds, d.canLay0 = true ∧ d.depth ≤ n) : PyData.canLayAll0 ds = true ∧ PyData.depthAll ds ≤ n := by
  induction ds with
  | nil => exact ⟨rfl, Nat.zero_le _⟩
  | cons d ds ih =>
    obtain ⟨i1, i2⟩ := ih fun x hx => h x (List.mem_cons_of_mem _ hx)
    obtain ⟨h1, h2⟩ := h d (List.mem_cons_self ..)
    simp only [PyData.canLayAll0, PyData.depthAll, h1, i1, Bool.and_true, true_and]
    omega
theorem layT {n : Nat} {ds : List PyData} (h : ∀ d ∈ ds, d.canLay0 = true ∧ d.depth ≤ n) : (PyData.tuple ds).canLay0 = true ∧ (PyData.tuple ds).depth ≤ n + 1 := by
  obtain ⟨h1, h2⟩ := layN h
  exact ⟨h1, by show PyData.depthAll ds + 1 ≤ n + 1; omega⟩
theorem layL {n : Nat} {ds : List PyData} (h : ∀ d ∈ ds, d.canLay0 = true ∧ d.depth ≤ n) : (PyData.list ds).canLay0 = true ∧ (PyData.list ds).depth ≤ n + 1 := by
  obtain ⟨h1, h2⟩ := layN h
  exact ⟨h1, by show PyData.depthAll ds + 1 ≤ n + 1; omega⟩
theorem layS {n : Nat} {z : Str} (h : PyData.strOk z = true) : (PyData.str z).canLay0 = true ∧ (PyData.str z).depth ≤ n := ⟨h, Nat.zero_le _⟩
theorem lay_up {n m : Nat} {d : PyData} (l : n ≤ m) (h : d.canLay0 = true ∧ d.depth ≤ n) : d.canLay0 = true ∧ d.depth ≤ m := ⟨h.1, Nat.le_trans h.2 l⟩
theorem sh_lay {n : Nat} {d : PyData} (h : d.canLay0 = true ∧ d.depth ≤ n) (hn : n ≤ 64) : SeqAt.shaped d = true := by
  show (d.canLay0 && decide (d.depth ≤ 64)) = true
  rw [h.1, Bool.true_and]
  exact decide_eq_true (Nat.le_trans h.2 hn)
theorem lay_act {a : Act} (h : goodA a) : (actD a).canLay0 = true ∧ (actD a).depth ≤ 1 := layT (n := 0) fun d hd => by
  simp only [List.mem_cons, List.not_mem_nil, or_false] at hd
  rcases hd with rfl | rfl | rfl
  · exact layS h.p
  · exact layS h.q
  · exact layS h.l
/-! ### runs -/
abbrev runD (r : List Act) : PyData := .list (r.map actD)
structure goodR (r : List Act) : Prop where
  a : ∀ a ∈ r, goodA a
  l : r.length ≤ 1000
theorem lay_run {r : List Act} (h : goodR r) : (runD r).canLay0 = true ∧ (runD r).depth ≤ 2 := layL (n := 1) fun d hd => by
  obtain ⟨a, ha, rfl⟩ := List.mem_map.mp hd
  exact lay_act (h.a a ha)
theorem eqv_acts : ∀ a b : List Act, PyData.eqvAll (a.map actD) (b.map actD) = decide (a = b)
  | [], [] => rfl
  | [], _ :: _ => rfl
  | _ :: _, [] => rfl
  | x :: xs, y :: ys => by
    show (PyData.eqv (actD x) (actD y) && PyData.eqvAll (xs.map actD) (ys.map actD)) = _
    rw [eqv_act, eqv_acts xs ys, Bool.eq_iff_iff]
    simp
theorem eq_run {n : Bool → Bool} {a b : List Act} {κ : AK} {R : AR} (ha : goodR a) (hb : goodR b) (h : R (.d (.bool (n (decide (a = b))))) κ) : aEqB n (.d (runD a)) (.d (runD b)) κ R := by
  have e : PyData.eqv (runD a) (runD b) = decide (a = b) := eqv_acts a b
  refine ⟨sh_lay (lay_run ha) (by decide), sh_lay (lay_run hb) (by decide), ?_⟩
  rw [e]; exact h
theorem view_good {p : Str} {r : List Act} (h : goodR r) : goodR (viewT p r) := ⟨fun a ha => h.a a ((List.mem_filter.mp ha).1), Nat.le_trans (List.length_filter_le ..) h.l⟩
theorem isN_opt {n : Bool → Bool} {o : Option Int} {κ : AK} {R : AR} (h : R (.d (.bool (n o.isNone))) κ) : aIsN n (.d (optD o)) (.d .none) κ R := by cases o <;> exact h
theorem isN_c {n : Bool → Bool} {o : Option Int} {δ : AD} {κ : AK} {R : AR} (h : R (.d (.bool (n o.isNone))) κ) : aC (.d .none) δ κ (fun b κ2 => aIsN n (.d (optD o)) b κ2 R) := isN_opt h
theorem run_snoc {r : List Act} (a : Act) : r.map actD ++ [actD a] = (r ++ [a]).map actD := by rw [List.map_append]; rfl
theorem good_snoc {r : List Act} {a : Act} (h : goodR r) (ha : goodA a) : ∀ x ∈ r ++ [a], goodA x := fun x hx => by
  rcases List.mem_append.mp hx with hx | hx
  · exact h.a x hx
  · rw [List.mem_singleton.mp hx]; exact ha
/-- run + [action], walked -/
theorem cat_run {r : List Act} {a : Act} {κ : AK} {R : AR} (h : goodR r) (k : R (.d (runD (r ++ [a]))) κ) : aCat false (.d (runD r)) (.d (.list [actD a])) κ R := by
  have := h.l
  refine ⟨_, _, rfl, rfl, sl100 (by rw [List.length_map]; show r.length + 1 ≤ _; omega), ?_⟩
  show R (.d (.list (r.map actD ++ [actD a]))) κ
  rw [run_snoc]; exact k
/-- a table that is walked -/
structure okT (rs : List Row) (bs : List Bool) : Prop where
  g : okG rs
  ne : rs ≠ []
  bl : bs.length = rs.length
def goesT (rs : List Row) (r : List Act) (a : Act) : Bool := (walkT rs (r ++ [a]) 0).isSome
def couldT (rs : List Row) (r : List Act) (a : Act) (p : Str) (o : List Act) : Bool := decide (viewT p o = viewT p r) && goesT rs o a
def F__could_do : FSp := fun as κ R _ => ∃ (rs : List Row) (bs : List Bool) (r o : List Act) (a : Act) (p : Str), as = [.d (tabD rs bs), .d (runD r), .d (actD a), .d (.str p), .d (runD o)] ∧ κ = [] ∧ okT rs bs ∧ goodR r ∧ goodR o ∧ goodA a ∧ R (.d (.bool (couldT rs r a p o))) []
abbrev N__could_do : List Str := ["table", "run", "action", "party", "other"]
def a__could_do (K : PySem.W.Frag) : AS :=
  (aRet (aAndV (aOp aEq (aCall Tab.F_view (fun _ _ => False) (aCons (aVar 4) (aCons (aVar 3) aNil))) (aCall Tab.F_view (fun _ _ => False) (aCons (aVar 1) (aCons (aVar 3) aNil)))) (aOp (aIsN not) (aCall Tab.F_walk (fun _ _ => False) (aCons (aVar 0) (aCons (aOp (aCat false) (aVar 4) (aLstD (aCons (aVar 2) aNil))) aNil))) (aC (.d .none)))))
theorem len__could_do : ∀ as κ R E', F__could_do as κ R E' → as.length = (["table", "run", "action", "party", "other"] : List Str).length := by
  rintro as κ R E' ⟨_, _, _, _, _, _, rfl, _⟩; rfl
theorem rd__could_do : ∀ as κ R E', F__could_do as κ R E' → a__could_do K (endsA K κ.length R) (startA N__could_do as) κ := by
  rintro as κ R E' ⟨rs, bs, r, o, a, p, rfl, rfl, ht, hr, ho, ha, h⟩
  have h1 := hr.l; have h2 := ho.l
  refine view_w (by omega) (view_w (by omega) (eq_run (view_good ho) (view_good hr) ?_))
  unfold couldT at h
  refine bsel_i (fun q => ?_) fun q => ?_
  · rw [show decide (viewT p o = viewT p r) = true from q, Bool.true_and] at h
    refine ⟨(show 1 ≤ sizeLine by decide), cat_run ho (nwalk_w ht.g ht.ne (good_snoc ho ha) ?_)⟩
    refine isN_c ?_
    refine ⟨_, _, GhR.refl (Nat.le_refl _), ?_⟩
    unfold goesT at h
    cases e : walkT rs (o ++ [a]) 0 <;> (rw [e] at h; exact h)
  · rw [show decide (viewT p o = viewT p r) = false from q, Bool.false_and] at h
    exact ⟨_, _, GhR.refl (Nat.le_refl _), h⟩
theorem could_w {rs : List Row} {bs : List Bool} {r o : List Act} {a : Act} {p : Str} {κ : AK} {R : AR} {E : AX → AK → Prop} (ht : okT rs bs) (hr : goodR r) (ho : goodR o) (ha : goodA a) (h : R (.d (.bool (couldT rs r a p o))) κ) : callW F__could_do E [.d (tabD rs bs), .d (runD r), .d (actD a), .d (.str p), .d (runD o)] κ R :=
  callW_i ⟨[], _, _, .nil, rfl, rfl, rs, bs, r, o, a, p, rfl, rfl, ht, hr, ho, ha, Nat.zero_le _, rfl, rfl, h⟩
def unrT (rs : List Row) (r : List Act) (a : Act) (o : List Act) : Bool := (walkT rs r 0).isSome && !goesT rs r a && couldT rs r a a.p o
def F__shows_unready : FSp := fun as κ R _ => ∃ (rs : List Row) (bs : List Bool) (r o : List Act) (a : Act), as = [.d (tabD rs bs), .d (runD r), .d (actD a), .d (runD o)] ∧ κ = [] ∧ okT rs bs ∧ goodR r ∧ goodR o ∧ goodA a ∧ R (.d (.bool (unrT rs r a o))) []
abbrev N__shows_unready : List Str := ["table", "run", "action", "other"]
def a__shows_unready (K : PySem.W.Frag) : AS :=
  (aSeq (aIfS (aOr (aB (aOp (aIsN id) (aCall Tab.F_walk (fun _ _ => False) (aCons (aVar 0) (aCons (aVar 1) aNil))) (aC (.d .none)))) (aB (aOp (aIsN not) (aCall Tab.F_walk (fun _ _ => False) (aCons (aVar 0) (aCons (aOp (aCat false) (aVar 1) (aLstD (aCons (aVar 2) aNil))) aNil))) (aC (.d .none))))) (aRet (aC (.d (.bool false)))) aNext) (aRet (aCall F__could_do (fun _ _ => False) (aCons (aVar 0) (aCons (aVar 1) (aCons (aVar 2) (aCons (aOp aIx (aVar 2) (aC (.d (.int 0)))) (aCons (aVar 3) aNil))))))))
theorem len__shows_unready : ∀ as κ R E', F__shows_unready as κ R E' → as.length = (["table", "run", "action", "other"] : List Str).length := by
  rintro as κ R E' ⟨_, _, _, _, _, rfl, _⟩; rfl
theorem rd__shows_unready : ∀ as κ R E', F__shows_unready as κ R E' → a__shows_unready K (endsA K κ.length R) (startA N__shows_unready as) κ := by
  rintro as κ R E' ⟨rs, bs, r, o, a, rfl, rfl, ht, hr, ho, ha, h⟩
  unfold unrT at h
  refine nwalk_w ht.g ht.ne hr.a ?_
  refine isN_c ?_
  cases e : walkT rs r 0 with
  | none =>
    rw [e] at h
    exact bT rfl ⟨_, _, GhR.refl (Nat.le_refl _), h⟩
  | some g =>
    rw [e] at h
    refine bF rfl ⟨(show 1 ≤ sizeLine by decide), cat_run hr (nwalk_w ht.g ht.ne (good_snoc hr ha) ?_)⟩
    refine isN_c ?_
    cases e2 : walkT rs (r ++ [a]) 0 with
    | some g2 =>
      rw [show goesT rs r a = true by unfold goesT; rw [e2]; rfl] at h
      exact bT rfl ⟨_, _, GhR.refl (Nat.le_refl _), h⟩
    | none =>
      rw [show goesT rs r a = false by unfold goesT; rw [e2]; rfl] at h
      refine bF rfl ?_
      refine ⟨_, at_nat (j := 0) rfl, could_w ht hr ho ha ?_⟩
      exact ⟨_, _, GhR.refl (Nat.le_refl _), h⟩
theorem unready_w {rs : List Row} {bs : List Bool} {r o : List Act} {a : Act} {κ : AK} {R : AR} {E : AX → AK → Prop} (ht : okT rs bs) (hr : goodR r) (ho : goodR o) (ha : goodA a) (h : R (.d (.bool (unrT rs r a o))) κ) : callW F__shows_unready E [.d (tabD rs bs), .d (runD r), .d (actD a), .d (runD o)] κ R :=
  callW_i ⟨[], _, _, .nil, rfl, rfl, rs, bs, r, o, a, rfl, rfl, ht, hr, ho, ha, Nat.zero_le _, rfl, rfl, h⟩
def F__shows_stray : FSp := fun as κ R _ => ∃ (rs : List Row) (bs : List Bool) (r f s : List Act) (a : Act), as = [.d (tabD rs bs), .d (runD r), .d (actD a), .d (runD f), .d (runD s)] ∧ κ = [] ∧ okT rs bs ∧ goodR r ∧ goodR f ∧ goodR s ∧ goodA a ∧ R (.d (.bool (unrT rs r a f && couldT rs r a a.q s))) []
abbrev N__shows_stray : List Str := ["table", "run", "action", "first", "second"]
def a__shows_stray (K : PySem.W.Frag) : AS :=
  (aRet (aAndV (aCall F__shows_unready (fun _ _ => False) (aCons (aVar 0) (aCons (aVar 1) (aCons (aVar 2) (aCons (aVar 3) aNil))))) (aCall F__could_do (fun _ _ => False) (aCons (aVar 0) (aCons (aVar 1) (aCons (aVar 2) (aCons (aOp aIx (aVar 2) (aC (.d (.int 1)))) (aCons (aVar 4) aNil))))))))
theorem len__shows_stray : ∀ as κ R E', F__shows_stray as κ R E' → as.length = (["table", "run", "action", "first", "second"] : List Str).length := by
  rintro as κ R E' ⟨_, _, _, _, _, _, rfl, _⟩; rfl
theorem rd__shows_stray : ∀ as κ R E', F__shows_stray as κ R E' → a__shows_stray K (endsA K κ.length R) (startA N__shows_stray as) κ := by
  rintro as κ R E' ⟨rs, bs, r, f, s, a, rfl, rfl, ht, hr, hf, hs, ha, h⟩
  refine unready_w ht hr hf ha ?_
  refine bsel_i (fun q => ?_) fun q => ?_
  · rw [q, Bool.true_and] at h
    refine ⟨_, at_nat (j := 1) rfl, could_w ht hr hs ha ?_⟩
    exact ⟨_, _, GhR.refl (Nat.le_refl _), h⟩
  · rw [q, Bool.false_and] at h
    exact ⟨_, _, GhR.refl (Nat.le_refl _), h⟩
/-! ### senders -/
def sendL (r : Row) : List Str := r.map fun x => x.1.p
/-- ys are the texts of xs, each once, in ascending order -/
def SetL (xs ys : List Str) : Prop := ys.Nodup ∧ (∀ x, x ∈ ys ↔ x ∈ xs) ∧ PyProof.Rows.sortedS ys = true
def F_senders_at : FSp := fun as κ R _ => ∃ (rs : List Row) (bs : List Bool) (s : Nat) (r : Row), as = [.d (tabD rs bs), .d (.int (s : Nat))] ∧ κ = [] ∧ rs[s]? = some r ∧ r.length < 64 ∧ ∀ ys, SetL (sendL r) ys → R (.d (.list (ys.map .str))) []
abbrev N_senders_at : List Str := ["table", "state", "action", "_"]
def a_senders_at (K : PySem.W.Frag) : AS :=
  (aRet (aSortSet (aLc (aIter (aOp aIx (aOp aIx (aVar 0) (aC (.d (.int 1)))) (aVar 1))) (aGTup 2 (aGCons (aName 2) (aGCons (aName 3) aGNil))) aYes (aOp aIx (aVar 2) (aC (.d (.int 0)))) [2, 3])))
theorem len_senders_at : ∀ as κ R E', F_senders_at as κ R E' → as.length = (["table", "state"] : List Str).length := by
  rintro as κ R E' ⟨_, _, _, _, rfl, _⟩; rfl
theorem getM {α β : Type} {f : α → β} {l : List α} {i : Nat} {y : β} (h : (l.map f)[i]? = some y) : ∃ x, l[i]? = some x ∧ y = f x := by
  rw [List.getElem?_map] at h
  cases e : l[i]? with
  | none => rw [e] at h; cases h
  | some x => rw [e] at h; cases h; exact ⟨x, rfl, rfl⟩
theorem take_get {α : Type} {l : List α} {i : Nat} {x : α} (h : l[i]? = some x) : l.take (i + 1) = l.take i ++ [x] := by
  rw [List.take_add_one, h]; rfl
theorem take_lt {α : Type} {l : List α} {i : Nat} {x : α} (h : l[i]? = some x) : (l.take i).length < l.length := by
  have := (List.getElem?_eq_some_iff.mp h).1
  rw [List.length_take]; omega
theorem small {n m : Nat} (h : n < m) (hm : m ≤ 1000000) : n < sizeLine := Nat.lt_of_lt_of_le (Nat.lt_of_lt_of_le h hm) (by decide)
/-- the senders of a row, in a comprehension -/
theorem senders_lc {r : Row} {f : AE} {x y : Nat} {δ : AD} {κ : AK} {R : AR} (hl : r.length ≤ 1000000) (hf : ∀ (a : Act) (g : Int) κ2 (Q : AR), Q (.d (.str a.p)) κ2 → aGTup 2 (aGCons (aName x) (aGCons (aName y) aGNil)) (.d (entT (a, g))) (wipeA δ [x, y]) κ2 fun δ2 κ3 => aYes δ2 κ3 fun b κ4 => bsel b (f δ2 κ4 Q) False)
    (h : R (.d (.list ((sendL r).map .str))) κ) : LcW (itD (r.map entT)) (aGTup 2 (aGCons (aName x) (aGCons (aName y) aGNil))) aYes f [x, y] δ κ R := by
  refine lc_d (fun i acc κ' => κ' = κ ∧ acc = (sendL (r.take i)).map .str) ⟨rfl, rfl⟩ ?_ ?_
  · rintro acc κ' ⟨rfl, rfl⟩
    rw [List.length_map, List.take_length]; exact h
  · rintro i d acc κ' hd ⟨rfl, rfl⟩
    obtain ⟨⟨a, g⟩, hx, rfl⟩ := getM hd
    refine hf a g _ (fun y κ4 => ∃ d, y = .d d ∧ _) ⟨_, rfl, ?_, rfl, ?_⟩
    · rw [List.length_map]; unfold sendL; rw [List.length_map]
      exact small (take_lt hx) hl
    · unfold sendL; rw [take_get hx, List.map_append, List.map_append]; rfl
theorem rd_senders_at : ∀ as κ R E', F_senders_at as κ R E' → a_senders_at K (endsA K κ.length R) (startA N_senders_at as) κ := by
  rintro as κ R E' ⟨rs, bs, s, r, rfl, rfl, hr, hl, h⟩
  refine ⟨_, at_nat (j := 1) rfl, rowT r, at_nat (by rw [List.getElem?_map, hr]; rfl), ?_⟩
  refine senders_lc (by omega) (fun a g κ2 Q hq => ⟨rfl, _, at_nat (j := 0) rfl, hq⟩) ?_
  refine ⟨sendL r, rfl, by unfold sendL; rw [List.length_map]; exact hl, fun ys y1 y2 y3 => ?_⟩
  exact ⟨_, _, GhR.refl (Nat.le_refl _), h ys ⟨y1, y2, y3⟩⟩
theorem senders_w {rs : List Row} {bs : List Bool} {s : Nat} {r : Row} {κ : AK} {R : AR} {E : AX → AK → Prop} (hr : rs[s]? = some r) (hl : r.length < 64) (h : ∀ ys, SetL (sendL r) ys → R (.d (.list (ys.map .str))) κ) : callW F_senders_at E [.d (tabD rs bs), .d (.int (s : Nat))] κ R :=
  callW_i ⟨[], _, _, .nil, rfl, rfl, rs, bs, s, r, rfl, rfl, hr, hl, fun ys hy => ⟨Nat.zero_le _, rfl, rfl, h ys hy⟩⟩
end Tab
set_option Elab.async false
set_option linter.all false
set_option maxRecDepth 100000
set_option maxHeartbeats 4000000
/-! Jud2: certificates judged: idle ones; what the law says of them -/
namespace Tab
open PySem L2 Ab Com
variable {K : PySem.W.Frag}
/-! ### sets of texts, ascending -/
theorem natl_le {a b : List Nat} (h : ¬ b < a) (n : a ≠ b) : a < b := by
  have h' : a ≤ b := h
  rcases List.le_iff_lt_or_eq.mp h' with h | h
  · exact h
  · exact absurd h n
theorem strict_of : ∀ {ys : List Str}, PyProof.Rows.sortedS ys = true → ys.Nodup → ys.Pairwise fun a b => tl a < tl b
  | [], _, _ => .nil
  | [x], _, _ => by simp
  | p :: x :: r, h, n => by
    have h' : (!PySem.Spec.ltCps x.cps.toList p.cps.toList && PyProof.Rows.risingS x r) = true := h
    rw [Bool.and_eq_true, PyProof.Rows.ltCps_eq, Bool.not_eq_true', decide_eq_false_iff_not] at h'
    have n1 := List.nodup_cons.mp n
    have ih := strict_of (ys := x :: r) h'.2 n1.2
    have hpx : tl p < tl x := natl_le h'.1 fun e => n1.1 (by rw [tl_inj e]; exact List.mem_cons_self ..)
    refine List.pairwise_cons.mpr ⟨fun y hy => ?_, ih⟩
    rcases List.mem_cons.mp hy with rfl | hy
    · exact hpx
    · exact List.lt_trans hpx ((List.pairwise_cons.mp ih).1 y hy)
theorem setL_one {xs a b : List Str} (ha : SetL xs a) (hb : SetL xs b) : a = b := by
  have p : a.Perm b := (List.perm_ext_iff_of_nodup ha.1 hb.1).mpr fun x => by rw [ha.2.1, hb.2.1]
  exact p.eq_of_pairwise (fun x y _ _ h1 h2 => absurd (List.lt_trans h1 h2) (List.lt_irrefl _)) (strict_of ha.2.2 ha.1) (strict_of hb.2.2 hb.1)
open Classical in
noncomputable def setL (xs : List Str) : List Str := if h : ∃ ys, SetL xs ys then h.choose else []
theorem setL_eq {xs ys : List Str} (h : SetL xs ys) : setL xs = ys := by
  unfold setL
  rw [dif_pos ⟨ys, h⟩]
  exact setL_one (Exists.choose_spec (⟨ys, h⟩ : ∃ ys, SetL xs ys)) h
theorem eqv_strs : ∀ a b : List Str, PyData.eqvAll (a.map .str) (b.map .str) = decide (a = b)
  | [], [] => rfl
  | [], _ :: _ => rfl
  | _ :: _, [] => rfl
  | x :: xs, y :: ys => by
    show ((x == y) && PyData.eqvAll (xs.map .str) (ys.map .str)) = _
    rw [eqv_strs xs ys, Bool.eq_iff_iff]
    simp
theorem lay_strs {zs : List Str} (h : ∀ z ∈ zs, PyData.strOk z = true) : (PyData.list (zs.map .str)).canLay0 = true ∧ (PyData.list (zs.map .str)).depth ≤ 1 := layL (n := 0) fun d hd => by
  obtain ⟨z, hz, rfl⟩ := List.mem_map.mp hd
  exact layS (h z hz)
theorem eq_strs {n : Bool → Bool} {a b : List Str} {κ : AK} {R : AR} (ha : ∀ z ∈ a, PyData.strOk z = true) (hb : ∀ z ∈ b, PyData.strOk z = true) (h : R (.d (.bool (n (decide (a = b))))) κ) : aEqB n (.d (.list (a.map .str))) (.d (.list (b.map .str))) κ R := by
  have e : PyData.eqv (.list (a.map .str)) (.list (b.map .str)) = decide (a = b) := eqv_strs a b
  refine ⟨sh_lay (lay_strs ha) (by decide), sh_lay (lay_strs hb) (by decide), ?_⟩
  rw [e]; exact h
/-! ### where walks lead -/
theorem walk_lt {rs : List Row} (g : okG rs) : ∀ {r : List Act} {s : Nat} {t : Int}, s < rs.length → walkT rs r s = some t → 0 ≤ t ∧ t < rs.length
  | [], s, t, hs, h => by
    have h : some (s : Int) = some t := h
    cases h; omega
  | a :: r, s, t, hs, h => by
    have h : (match rs[s]? with | some r0 => _ | none => none) = some t := h
    rw [List.getElem?_eq_getElem hs] at h
    have h : (match stepR rs[s] a with | some g => walkT rs r g.toNat | none => none) = some t := h
    cases e : stepR rs[s] a with
    | none => rw [e] at h; cases h
    | some u =>
      rw [e] at h
      obtain ⟨g0, g1⟩ := g.g _ (List.getElem_mem hs) _ (step_mem e)
      exact walk_lt g (by omega) h
theorem walk0 {rs : List Row} {bs : List Bool} (ht : okT rs bs) {r : List Act} {t : Int} (h : walkT rs r 0 = some t) : ∃ n : Nat, t = (n : Int) ∧ n < rs.length ∧ ∃ row b, rs[n]? = some row ∧ bs[n]? = some b ∧ bs.getD n false = b := by
  obtain ⟨g0, g1⟩ := walk_lt ht.g (List.length_pos_iff.mpr ht.ne) h
  obtain ⟨n, rfl⟩ := Int.eq_ofNat_of_zero_le g0
  have h1 : n < rs.length := by omega
  have h2 : n < bs.length := by rw [ht.bl]; exact h1
  exact ⟨n, rfl, h1, _, _, List.getElem?_eq_getElem h1, List.getElem?_eq_getElem h2, by rw [List.getD_eq_getElem?_getD, List.getElem?_eq_getElem h2]; rfl⟩
def restT (rs : List Row) (bs : List Bool) (r : List Act) (p : Str) (o : List Act) : Bool := match walkT rs o 0 with
  | some g => bs.getD g.toNat false && decide (viewT p o = viewT p r)
  | none => false
def F__could_rest : FSp := fun as κ R _ => ∃ (rs : List Row) (bs : List Bool) (r o : List Act) (p : Str), as = [.d (tabD rs bs), .d (runD r), .d (.str p), .d (runD o)] ∧ κ = [] ∧ okT rs bs ∧ goodR r ∧ goodR o ∧ R (.d (.bool (restT rs bs r p o))) []
abbrev N__could_rest : List Str := ["table", "run", "party", "other", "state"]
def a__could_rest (K : PySem.W.Frag) : AS :=
  (aSeq (aSet 4 (aCall Tab.F_walk (fun _ _ => False) (aCons (aVar 0) (aCons (aVar 3) aNil)))) (aRet (aAndV (aOp (aIsN not) (aVar 4) (aC (.d .none))) (aAndV (aOp aIx (aOp aIx (aVar 0) (aC (.d (.int 2)))) (aVar 4)) (aOp aEq (aCall Tab.F_view (fun _ _ => False) (aCons (aVar 3) (aCons (aVar 2) aNil))) (aCall Tab.F_view (fun _ _ => False) (aCons (aVar 1) (aCons (aVar 2) aNil))))))))
theorem len__could_rest : ∀ as κ R E', F__could_rest as κ R E' → as.length = (["table", "run", "party", "other"] : List Str).length := by
  rintro as κ R E' ⟨_, _, _, _, _, rfl, _⟩; rfl
theorem rd__could_rest : ∀ as κ R E', F__could_rest as κ R E' → a__could_rest K (endsA K κ.length R) (startA N__could_rest as) κ := by
  rintro as κ R E' ⟨rs, bs, r, o, p, rfl, rfl, ht, hr, ho, h⟩
  have h1 := hr.l; have h2 := ho.l
  unfold restT at h
  refine nwalk_w ht.g ht.ne ho.a ?_
  cases e : walkT rs o 0 with
  | none =>
    rw [e] at h
    exact ⟨_, _, GhR.refl (Nat.le_refl _), h⟩
  | some g =>
    obtain ⟨n, rfl, hn, row, b, e1, e2, e3⟩ := walk0 ht e
    rw [e] at h
    have h : R (.d (.bool (bs.getD n false && decide (viewT p o = viewT p r)))) [] := h
    rw [e3] at h
    refine ⟨_, at_nat (j := 2) rfl, .bool b, at_nat (by rw [List.getElem?_map, e2]; rfl), bsel_i (fun q => ?_) fun q => ?_⟩
    · rw [q, Bool.true_and] at h
      refine view_w (by omega) (view_w (by omega) (eq_run (view_good ho) (view_good hr) ?_))
      exact ⟨_, _, GhR.refl (Nat.le_refl _), h⟩
    · rw [q, Bool.false_and] at h
      exact ⟨_, _, GhR.refl (Nat.le_refl _), h⟩
theorem rest_w {rs : List Row} {bs : List Bool} {r o : List Act} {p : Str} {κ : AK} {R : AR} {E : AX → AK → Prop} (ht : okT rs bs) (hr : goodR r) (ho : goodR o) (h : R (.d (.bool (restT rs bs r p o))) κ) : callW F__could_rest E [.d (tabD rs bs), .d (runD r), .d (.str p), .d (runD o)] κ R :=
  callW_i ⟨[], _, _, .nil, rfl, rfl, rs, bs, r, o, p, rfl, rfl, ht, hr, ho, Nat.zero_le _, rfl, rfl, h⟩
abbrev Oth := List (Str × List Act)
def othD (o : Str × List Act) : PyData := .tuple [.str o.1, runD o.2]
structure goodO (os : Oth) : Prop where
  a : ∀ o ∈ os, PyData.strOk o.1 = true ∧ goodR o.2
  l : os.length ≤ 1000
noncomputable def idleT (rs : List Row) (bs : List Bool) (r : List Act) (os : Oth) : Bool := match walkT rs r 0 with
  | none => false
  | some g => !bs.getD g.toNat false && decide (os.map (·.1) = setL (sendL (rs.getD g.toNat []))) && os.all fun o => restT rs bs r o.1 o.2
theorem send_ok {rs : List Row} (g : okG rs) {n : Nat} {row : Row} (h : rs[n]? = some row) {ys : List Str} (hy : SetL (sendL row) ys) : ∀ z ∈ ys, PyData.strOk z = true := fun z hz => by
  have hz := (hy.2.1 z).mp hz
  unfold sendL at hz
  obtain ⟨x, hx, rfl⟩ := List.mem_map.mp hz
  exact (g.a _ (List.mem_of_getElem? h) x hx).p
def F__shows_idle : FSp := fun as κ R _ => ∃ (rs : List Row) (bs : List Bool) (r : List Act) (os : Oth), as = [.d (tabD rs bs), .d (runD r), .d (.list (os.map othD))] ∧ κ = [] ∧ okT rs bs ∧ (∀ row ∈ rs, row.length < 64) ∧ goodR r ∧ goodO os ∧ R (.d (.bool (idleT rs bs r os))) []
abbrev N__shows_idle : List Str := ["table", "run", "others", "state", "party", "_", "other"]
def a__shows_idle (K : PySem.W.Frag) : AS :=
  (aSeq (aSet 3 (aCall Tab.F_walk (fun _ _ => False) (aCons (aVar 0) (aCons (aVar 1) aNil)))) (aSeq (aIfS (aOr (aB (aOp (aIsN id) (aVar 3) (aC (.d .none)))) (aTru (aOp aIx (aOp aIx (aVar 0) (aC (.d (.int 2)))) (aVar 3)))) (aRet (aC (.d (.bool false)))) aNext) (aSeq (aIfS (aB (aOp aNe (aLc (aIter (aVar 2)) (aGTup 2 (aGCons (aName 4) (aGCons (aName 5) aGNil))) aYes (aVar 4) [4, 5]) (aCall F_senders_at (fun _ _ => False) (aCons (aVar 0) (aCons (aVar 3) aNil))))) (aRet (aC (.d (.bool false)))) aNext) (aRet (aCB aAll (aCons (aLc (aIter (aVar 2)) (aGTup 2 (aGCons (aName 4) (aGCons (aName 6) aGNil))) aYes (aCall F__could_rest (fun _ _ => False) (aCons (aVar 0) (aCons (aVar 1) (aCons (aVar 4) (aCons (aVar 6) aNil))))) [4, 6]) aNil))))))
theorem len__shows_idle : ∀ as κ R E', F__shows_idle as κ R E' → as.length = (["table", "run", "others"] : List Str).length := by
  rintro as κ R E' ⟨_, _, _, _, rfl, _⟩; rfl
theorem rd__shows_idle : ∀ as κ R E', F__shows_idle as κ R E' → a__shows_idle K (endsA K κ.length R) (startA N__shows_idle as) κ := by
  rintro as κ R E' ⟨rs, bs, r, os, rfl, rfl, ht, h64, hr, ho, h⟩
  have h1 := hr.l; have h2 := ho.l
  unfold idleT at h
  refine nwalk_w ht.g ht.ne hr.a ?_
  cases e : walkT rs r 0 with
  | none =>
    rw [e] at h
    exact ⟨_, _, GhR.refl (Nat.le_refl _), h⟩
  | some g =>
    obtain ⟨n, rfl, hn, row, b, e1, e2, e3⟩ := walk0 ht e
    have e4 : rs.getD n [] = row := by rw [List.getD_eq_getElem?_getD, e1]; rfl
    rw [e] at h
    have h : R (.d (.bool (!bs.getD n false && decide (os.map (·.1) = setL (sendL (rs.getD n []))) && os.all fun o => restT rs bs r o.1 o.2))) [] := h
    rw [e3, e4] at h
    refine ⟨_, at_nat (j := 2) rfl, .bool b, at_nat (by rw [List.getElem?_map, e2]; rfl), bsel_i (fun q => ?_) fun q => ?_⟩
    · rw [q] at h
      exact ⟨_, _, GhR.refl (Nat.le_refl _), h⟩
    rw [q, Bool.not_false, Bool.true_and] at h
    refine lc_d (fun i acc κ' => κ' = [] ∧ acc = ((os.take i).map (·.1)).map .str) ⟨rfl, rfl⟩ ?_ ?_
    · rintro acc κ' ⟨rfl, rfl⟩
      rw [List.length_map, List.take_length]
      refine senders_w e1 (h64 _ (List.mem_of_getElem? e1)) fun ys hy => ?_
      rw [setL_eq hy] at h
      refine eq_strs (fun z hz => ?_) (send_ok ht.g e1 hy) ?_
      · obtain ⟨o, ho', rfl⟩ := List.mem_map.mp hz
        exact (ho.a o ho').1
      by_cases q2 : os.map (·.1) = ys
      · rw [decide_eq_true q2, Bool.true_and] at h
        rw [decide_eq_true q2]
        refine lc_d (fun i acc κ' => κ' = [] ∧ acc = ((os.take i).map fun o => restT rs bs r o.1 o.2).map .bool) ⟨rfl, rfl⟩ ?_ ?_
        · rintro acc κ' ⟨rfl, rfl⟩
          rw [List.length_map, List.take_length]
          refine ⟨_, rfl, _, _, GhR.refl (Nat.le_refl _), ?_⟩
          rw [List.all_map]; exact h
        · rintro i d acc κ' hd ⟨rfl, rfl⟩
          obtain ⟨o, ho', rfl⟩ := getM hd
          refine ⟨rfl, rest_w ht hr (ho.a o (List.mem_of_getElem? ho')).2 ⟨_, rfl, ?_, rfl, ?_⟩⟩
          · rw [List.length_map, List.length_map]; exact small (take_lt ho') (by omega)
          · rw [take_get ho', List.map_append, List.map_append]; rfl
      · rw [decide_eq_false q2, Bool.false_and] at h
        rw [decide_eq_false q2]
        exact ⟨_, _, GhR.refl (Nat.le_refl _), h⟩
    · rintro i d acc κ' hd ⟨rfl, rfl⟩
      obtain ⟨o, ho', rfl⟩ := getM hd
      refine ⟨rfl, _, rfl, ?_, rfl, ?_⟩
      · rw [List.length_map, List.length_map]; exact small (take_lt ho') (by omega)
      · rw [take_get ho', List.map_append, List.map_append]; rfl
inductive Pp where
  | stray (r : List Act) (a : Act) (f s : List Act)
  | unready (r : List Act) (a : Act) (o : List Act)
  | idle (r : List Act) (os : Oth)
def ppD : Pp → PyData
  | .stray r a f s => .tuple [.str "stray", runD r, actD a, runD f, runD s]
  | .unready r a o => .tuple [.str "unready", runD r, actD a, runD o]
  | .idle r os => .tuple [.str "idle", runD r, .list (os.map othD)]
def goodP : Pp → Prop
  | .stray r a f s => goodR r ∧ goodA a ∧ goodR f ∧ goodR s
  | .unready r a o => goodR r ∧ goodA a ∧ goodR o
  | .idle r os => goodR r ∧ goodO os
noncomputable def judgeT (rs : List Row) (bs : List Bool) : Pp → Bool
  | .stray r a f s => unrT rs r a f && couldT rs r a a.q s
  | .unready r a o => unrT rs r a o
  | .idle r os => idleT rs bs r os
def F_judge : FSp := fun as κ R _ => ∃ (rs : List Row) (bs : List Bool) (p : Pp), as = [.d (tabD rs bs), .d (ppD p)] ∧ κ = [] ∧ okT rs bs ∧ (∀ row ∈ rs, row.length < 64) ∧ goodP p ∧ R (.d (.bool (judgeT rs bs p))) []
abbrev N_judge : List Str := ["table", "certificate", "kind", "parts"]
def a_judge (K : PySem.W.Frag) : AS :=
  (aSeq (aAsg (aVar 1) (aGStarT (aGCons (aName 2) (aGCons (aName 3) aGNil)))) (aSeq (aIfS (aAnd (aB (aOp aEq (aVar 2) (aC (.d (.str "stray"))))) (aB (aOp aEq (aCB aLen (aCons (aVar 3) aNil)) (aC (.d (.int 4)))))) (aRet (aCall F__shows_stray (fun _ _ => False) (aCons (aVar 0) (aStar (aVar 3) aNil)))) aNext) (aSeq (aIfS (aAnd (aB (aOp aEq (aVar 2) (aC (.d (.str "unready"))))) (aB (aOp aEq (aCB aLen (aCons (aVar 3) aNil)) (aC (.d (.int 3)))))) (aRet (aCall F__shows_unready (fun _ _ => False) (aCons (aVar 0) (aStar (aVar 3) aNil)))) aNext) (aSeq (aIfS (aAnd (aB (aOp aEq (aVar 2) (aC (.d (.str "idle"))))) (aB (aOp aEq (aCB aLen (aCons (aVar 3) aNil)) (aC (.d (.int 2)))))) (aRet (aCall F__shows_idle (fun _ _ => False) (aCons (aVar 0) (aStar (aVar 3) aNil)))) aNext) (aRet (aC (.d (.bool false))))))))
theorem len_judge : ∀ as κ R E', F_judge as κ R E' → as.length = (["table", "certificate"] : List Str).length := by
  rintro as κ R E' ⟨_, _, _, rfl, _⟩; rfl
theorem rd_judge : ∀ as κ R E', F_judge as κ R E' → a_judge K (endsA K κ.length R) (startA N_judge as) κ := by
  rintro as κ R E' ⟨rs, bs, p, rfl, rfl, ht, h64, hp, h⟩
  have fin : ∀ b κ, R (.d (.bool b)) [] → κ = [] → (endsA K ([] : AK).length R).rt (.d (.bool b)) κ := fun b κ h e => by subst e; exact ⟨_, _, GhR.refl (Nat.le_refl _), h⟩
  cases p with
  | stray r a f s =>
    obtain ⟨hr, ha, hf, hs⟩ := hp
    refine callW_i ⟨[], _, _, .nil, rfl, rfl, rs, bs, r, f, s, a, rfl, rfl, ht, hr, hf, hs, ha, Nat.zero_le _, rfl, rfl, ?_⟩
    exact fin _ _ h rfl
  | unready r a o =>
    obtain ⟨hr, ha, ho⟩ := hp
    refine unready_w ht hr ho ha ?_
    exact fin _ _ h rfl
  | idle r os =>
    obtain ⟨hr, ho⟩ := hp
    refine callW_i ⟨[], _, _, .nil, rfl, rfl, rs, bs, r, os, rfl, rfl, ht, h64, hr, ho, Nat.zero_le _, rfl, rfl, ?_⟩
    exact fin _ _ h rfl
theorem judge_w {rs : List Row} {bs : List Bool} {p : Pp} {κ : AK} {R : AR} {E : AX → AK → Prop} (ht : okT rs bs) (h64 : ∀ row ∈ rs, row.length < 64) (hp : goodP p) (h : R (.d (.bool (judgeT rs bs p))) κ) : callW F_judge E [.d (tabD rs bs), .d (ppD p)] κ R :=
  callW_i ⟨[], _, _, .nil, rfl, rfl, rs, bs, p, rfl, rfl, ht, h64, hp, Nat.zero_le _, rfl, rfl, h⟩
end Tab
set_option Elab.async false
set_option linter.all false
set_option maxRecDepth 100000
set_option maxHeartbeats 4000000
/-! Jud3: what the law says of certificates; drawn runs and papers -/
namespace Tab
open PySem L2 Ab Com
variable {K : PySem.W.Frag}
theorem endD {κ : AK} {x : PyData} {R : AR} (h : R (.d x) []) : ∃ a' κ', GhR K 0 (.d x) κ a' κ' ∧ R a' κ' := ⟨_, _, GhR.take 0 (Nat.le_refl _) (Nat.zero_le _) rfl rfl, h⟩
def partsIn (rs : List Row) (z : Str) : Prop := ∃ r ∈ rs, ∃ x ∈ r, z = x.1.p ∨ z = x.1.q
def F__law_parties : FSp := fun as κ R _ => ∃ (rs : List Row) (bs : List Bool) (T : List Str), as = [.d (tabD rs bs)] ∧ κ = [] ∧ T.length < 64 ∧ (∀ r ∈ rs, ∀ x ∈ r, x.1.p ∈ T ∧ x.1.q ∈ T) ∧ ∀ ys : List Str, ys.Nodup → (∀ z, z ∈ ys ↔ partsIn rs z) → ys.length < 64 → PyProof.Rows.sortedS ys = true → R (.d (.list (ys.map .str))) []
abbrev N__law_parties : List Str := ["table", "found", "row", "action", "goal", "party"]
def a__law_parties (K : PySem.W.Frag) : AS :=
  (aSeq (aSet 1 (aLst aNil)) (aSeq (aFor (aIter (aOp aIx (aVar 0) (aC (.d (.int 1))))) (aName 2) (aFor (aIter (aVar 2)) (aGTup 2 (aGCons (aName 3) (aGCons (aName 4) aGNil))) (aFor (aIter (aLstD (aCons (aOp aIx (aVar 3) (aC (.d (.int 0)))) (aCons (aOp aIx (aVar 3) (aC (.d (.int 1)))) aNil)))) (aName 5) (aIfS (aB (aOp (aIn not) (aVar 5) (aVar 1))) (aDrop (aBM "list" aAppend (aVar 1) (aCons (aVar 5) aNil))) aNext)))) (aRet (aCB aSort (aCons (aVar 1) aNil)))))
theorem len__law_parties : ∀ as κ R E', F__law_parties as κ R E' → as.length = (["table"] : List Str).length := by
  rintro as κ R E' ⟨_, _, _, rfl, _⟩; rfl
/-- a text that is put behind others, if it is not among them -/
def put1 (l : List Str) (z : Str) : List Str := if z ∈ l then l else l ++ [z]
def st3 (l : List Str) (a b : Str) : Nat → List Str
  | 0 => l
  | 1 => put1 l a
  | _ => put1 (put1 l a) b
theorem put1_mem {l : List Str} {z x : Str} : x ∈ put1 l z ↔ x ∈ l ∨ x = z := by
  unfold put1
  split
  · exact ⟨.inl, fun h => h.elim id fun e => by rw [e]; assumption⟩
  · rw [List.mem_append, List.mem_singleton]
theorem put1_nd {l : List Str} {z : Str} (h : l.Nodup) : (put1 l z).Nodup := by
  unfold put1
  split
  · exact h
  · rename_i hz
    refine List.nodup_append.mpr ⟨h, by simp, fun x hx y hy e => hz ?_⟩
    rw [List.mem_singleton.mp hy] at e
    rw [← e]; exact hx
theorem put_step {A : AEnds} {d0 d2 d3 d4 d5 : Option AV} {l : List Str} {z : Str} (hl : l.length < 64) (k : A.nx [d0, some (.c 0), d2, d3, d4, some (.d (.str z))] [.ld ((put1 l z).map .str)]) :
    aName 5 (.d (.str z)) [d0, some (.c 0), d2, d3, d4, d5] [.ld (l.map .str)] fun δ2 κ2 => aIfS (aB (aOp (aIn not) (aVar 5) (aVar 1))) (aDrop (aBM "list" aAppend (aVar 1) (aCons (aVar 5) aNil))) aNext A δ2 κ2 := by
  refine ⟨rfl, Ab.flat_strs l, ?_⟩
  show bsel (not (inD (.str z) (l.map .str))) _ _
  rw [inD_str]
  unfold put1 at k
  by_cases hz : z ∈ l
  · rw [if_pos hz] at k
    rw [decide_eq_true hz]
    exact k
  · rw [if_neg hz, List.map_append] at k
    rw [decide_eq_false hz]
    exact ⟨rfl, by rw [List.length_map]; exact small hl (by decide), k⟩
theorem rd__law_parties : ∀ as κ R E', F__law_parties as κ R E' → a__law_parties K (endsA K κ.length R) (startA N__law_parties as) κ := by
  rintro as κ R E' ⟨rs, bs, T, rfl, rfl, hT, hin, h⟩
  refine ⟨(show 0 ≤ sizeLine by decide), _, at_nat (j := 1) rfl, ?_⟩
  have bd : ∀ l : List Str, l.Nodup → (∀ z ∈ l, z ∈ T) → l.length < 64 := fun l h1 h2 => Nat.lt_of_le_of_lt (nodup_le h1 h2) hT
  refine for_d (fun i δ κ => ∃ l x2 x3 x4 x5, δ = [some (.d (tabD rs bs)), some (.c 0), x2, x3, x4, x5] ∧ κ = [.ld (l.map .str)] ∧ l.Nodup ∧ ∀ z, z ∈ l ↔ partsIn (rs.take i) z) ⟨[], none, none, none, none, rfl, rfl, .nil, fun z => ⟨fun q => (by cases q), fun ⟨r, hr, _⟩ => (by cases hr)⟩⟩ ?_ ?_
  · rintro δ κ ⟨l, x2, x3, x4, x5, rfl, rfl, nd, hm⟩ _
    rw [List.length_map, List.take_length] at hm
    have hl := bd l nd fun z hz => by
      obtain ⟨r, hr, x, hx, q⟩ := (hm z).mp hz
      rcases q with q | q <;> rw [q]
      · exact (hin r hr x hx).1
      · exact (hin r hr x hx).2
    refine .inr ⟨l, rfl, hl, fun ys hp hs => ?_⟩
    refine endD ?_
    exact h ys (hp.nodup_iff.mpr nd) (fun z => by rw [hp.mem_iff]; exact hm z) (by rw [hp.length_eq]; exact hl) hs
  · rintro i d δ κ hd ⟨l, x2, x3, x4, x5, rfl, rfl, nd, hm⟩ _
    obtain ⟨r, hr, rfl⟩ := getM hd
    have hrm := List.mem_of_getElem? hr
    refine for_d (fun j δ κ => ∃ l x3 x4 x5, δ = [some (.d (tabD rs bs)), some (.c 0), some (.d (rowT r)), x3, x4, x5] ∧ κ = [.ld (l.map .str)] ∧ l.Nodup ∧ ∀ z, z ∈ l ↔ partsIn (rs.take i ++ [r.take j]) z) ⟨l, x3, x4, x5, rfl, rfl, nd, fun z => ?_⟩ ?_ ?_
    · rw [hm z]
      refine ⟨fun ⟨q, hq, x⟩ => ⟨q, List.mem_append_left _ hq, x⟩, fun ⟨q, hq, x, hx, y⟩ => ?_⟩
      rcases List.mem_append.mp hq with hq | hq
      · exact ⟨q, hq, x, hx, y⟩
      · rw [List.mem_singleton.mp hq] at hx; cases hx
    · rintro δ κ ⟨l, x3, x4, x5, rfl, rfl, nd, hm⟩ _
      rw [List.length_map, List.take_length] at hm
      exact ⟨l, _, x3, x4, x5, rfl, rfl, nd, fun z => by rw [take_get hr]; exact hm z⟩
    · rintro j d δ κ hd ⟨l, x3, x4, x5, rfl, rfl, nd, hm⟩ _
      obtain ⟨x, hx, rfl⟩ := getM hd
      have hxm := List.mem_of_getElem? hx
      have hlT : ∀ z ∈ l, z ∈ T := fun z hz => by
        obtain ⟨q, hq, y, hy, e⟩ := (hm z).mp hz
        have hqr : ∃ q' ∈ rs, y ∈ q' := by
          rcases List.mem_append.mp hq with hq | hq
          · exact ⟨q, List.mem_of_mem_take hq, hy⟩
          · rw [List.mem_singleton.mp hq] at hy
            exact ⟨r, hrm, List.mem_of_mem_take hy⟩
        obtain ⟨q', hq', hy'⟩ := hqr
        rcases e with e | e <;> rw [e]
        · exact (hin q' hq' y hy').1
        · exact (hin q' hq' y hy').2
      obtain ⟨t1, t2⟩ := hin r hrm x hxm
      refine ⟨rfl, _, at_nat (j := 0) rfl, _, at_nat (j := 1) rfl, (show 2 ≤ sizeLine by decide), ?_⟩
      refine for_d (xs := [.str x.1.p, .str x.1.q]) (fun k δ κ => ∃ x5, δ = [some (.d (tabD rs bs)), some (.c 0), some (.d (rowT r)), some (.d (actD x.1)), some (.d (.int x.2)), x5] ∧ κ = [.ld ((st3 l x.1.p x.1.q k).map .str)]) ⟨x5, rfl, rfl⟩ ?_ ?_
      · rintro δ κ ⟨x5, rfl, rfl⟩ _
        refine ⟨put1 (put1 l x.1.p) x.1.q, _, _, x5, rfl, rfl, put1_nd (put1_nd nd), fun z => ?_⟩
        rw [put1_mem, put1_mem, hm z]
        constructor
        · rintro ((⟨q, hq, y, hy, e⟩ | e) | e)
          · rcases List.mem_append.mp hq with hq | hq
            · exact ⟨q, List.mem_append_left _ hq, y, hy, e⟩
            · rw [List.mem_singleton.mp hq] at hy
              exact ⟨r.take (j + 1), List.mem_append_right _ (List.mem_singleton.mpr rfl), y, by rw [take_get hx]; exact List.mem_append_left _ hy, e⟩
          · exact ⟨r.take (j + 1), List.mem_append_right _ (List.mem_singleton.mpr rfl), x, by rw [take_get hx]; exact List.mem_append_right _ (List.mem_singleton.mpr rfl), .inl e⟩
          · exact ⟨r.take (j + 1), List.mem_append_right _ (List.mem_singleton.mpr rfl), x, by rw [take_get hx]; exact List.mem_append_right _ (List.mem_singleton.mpr rfl), .inr e⟩
        · rintro ⟨q, hq, y, hy, e⟩
          rcases List.mem_append.mp hq with hq | hq
          · exact .inl (.inl ⟨q, List.mem_append_left _ hq, y, hy, e⟩)
          · rw [List.mem_singleton.mp hq, take_get hx] at hy
            rcases List.mem_append.mp hy with hy | hy
            · exact .inl (.inl ⟨r.take j, List.mem_append_right _ (List.mem_singleton.mpr rfl), y, hy, e⟩)
            · rw [List.mem_singleton.mp hy] at e
              rcases e with e | e
              · exact .inl (.inr e)
              · exact .inr e
      · rintro k d δ κ hd ⟨x5, rfl, rfl⟩ _
        match k, hd with
        | 0, hd =>
          cases hd
          exact put_step (bd l nd hlT) ⟨_, rfl, rfl⟩
        | 1, hd =>
          cases hd
          exact put_step (bd (put1 l x.1.p) (put1_nd nd) fun z hz => (put1_mem.mp hz).elim (hlT z) fun e => e ▸ t1) ⟨_, rfl, rfl⟩
        | k + 2, hd => simp at hd
theorem parties_w {rs : List Row} {bs : List Bool} {T : List Str} {κ : AK} {R : AR} {E : AX → AK → Prop} (hT : T.length < 64) (hin : ∀ r ∈ rs, ∀ x ∈ r, x.1.p ∈ T ∧ x.1.q ∈ T) (h : ∀ ys : List Str, ys.Nodup → (∀ z, z ∈ ys ↔ partsIn rs z) → ys.length < 64 → PyProof.Rows.sortedS ys = true → R (.d (.list (ys.map .str))) κ) : callW F__law_parties E [.d (tabD rs bs)] κ R :=
  callW_i ⟨[], _, _, .nil, rfl, rfl, rs, bs, T, rfl, rfl, hT, hin, fun ys h1 h2 h3 h4 => ⟨Nat.zero_le _, rfl, rfl, h ys h1 h2 h3 h4⟩⟩
def F__law_same_view : FSp := fun as κ R _ => ∃ (a b : List Act) (p : Str), as = [.d (runD a), .d (runD b), .d (.str p)] ∧ κ = [] ∧ goodR a ∧ goodR b ∧ R (.d (.bool (decide (viewT p b = viewT p a)))) []
abbrev N__law_same_view : List Str := ["one", "other", "party"]
def a__law_same_view (K : PySem.W.Frag) : AS :=
  (aRet (aOp aEq (aCall Tab.F__law_view (fun _ _ => False) (aCons (aVar 0) (aCons (aVar 2) aNil))) (aCall Tab.F__law_view (fun _ _ => False) (aCons (aVar 1) (aCons (aVar 2) aNil)))))
theorem len__law_same_view : ∀ as κ R E', F__law_same_view as κ R E' → as.length = (["one", "other", "party"] : List Str).length := by
  rintro as κ R E' ⟨_, _, _, rfl, _⟩; rfl
theorem rd__law_same_view : ∀ as κ R E', F__law_same_view as κ R E' → a__law_same_view K (endsA K κ.length R) (startA N__law_same_view as) κ := by
  rintro as κ R E' ⟨a, b, p, rfl, rfl, ha, hb, h⟩
  have h1 := ha.l; have h2 := hb.l
  refine lview_w (by omega) (lview_w (by omega) (eq_run (view_good ha) (view_good hb) ?_))
  refine ⟨_, _, GhR.refl (Nat.le_refl _), ?_⟩
  rw [show decide (viewT p b = viewT p a) = decide (viewT p a = viewT p b) from decide_eq_decide.mpr eq_comm] at h
  exact h
theorem same_w {a b : List Act} {p : Str} {κ : AK} {R : AR} {E : AX → AK → Prop} (ha : goodR a) (hb : goodR b) (h : R (.d (.bool (decide (viewT p b = viewT p a)))) κ) : callW F__law_same_view E [.d (runD a), .d (runD b), .d (.str p)] κ R :=
  callW_i ⟨[], _, _, .nil, rfl, rfl, a, b, p, rfl, rfl, ha, hb, Nat.zero_le _, rfl, rfl, h⟩
def F__law_goes : FSp := fun as κ R _ => ∃ (rs : List Row) (bs : List Bool) (r : List Act) (a : Act), as = [.d (tabD rs bs), .d (runD r), .d (actD a)] ∧ κ = [] ∧ okT rs bs ∧ goodR r ∧ goodA a ∧ R (.d (.bool (goesT rs r a))) []
abbrev N__law_goes : List Str := ["table", "run", "action"]
def a__law_goes (K : PySem.W.Frag) : AS :=
  (aRet (aOp (aIsN not) (aCall Tab.F__law_walk (fun _ _ => False) (aCons (aVar 0) (aCons (aOp (aCat false) (aCB (aListOf false) (aCons (aVar 1) aNil)) (aLstD (aCons (aVar 2) aNil))) aNil))) (aC (.d .none))))
theorem len__law_goes : ∀ as κ R E', F__law_goes as κ R E' → as.length = (["table", "run", "action"] : List Str).length := by
  rintro as κ R E' ⟨_, _, _, _, rfl, _⟩; rfl
theorem rd__law_goes : ∀ as κ R E', F__law_goes as κ R E' → a__law_goes K (endsA K κ.length R) (startA N__law_goes as) κ := by
  rintro as κ R E' ⟨rs, bs, r, a, rfl, rfl, ht, hr, ha, h⟩
  refine ⟨(show 1 ≤ sizeLine by decide), cat_run hr (lwalk_w ht.g ht.ne (good_snoc hr ha) ?_)⟩
  refine isN_c ?_
  refine ⟨_, _, GhR.refl (Nat.le_refl _), ?_⟩
  unfold goesT at h
  cases e : walkT rs (r ++ [a]) 0 <;> (rw [e] at h; exact h)
theorem goes_w {rs : List Row} {bs : List Bool} {r : List Act} {a : Act} {κ : AK} {R : AR} {E : AX → AK → Prop} (ht : okT rs bs) (hr : goodR r) (ha : goodA a) (h : R (.d (.bool (goesT rs r a))) κ) : callW F__law_goes E [.d (tabD rs bs), .d (runD r), .d (actD a)] κ R :=
  callW_i ⟨[], _, _, .nil, rfl, rfl, rs, bs, r, a, rfl, rfl, ht, hr, ha, Nat.zero_le _, rfl, rfl, h⟩
end Tab
set_option Elab.async false
set_option linter.all false
set_option maxRecDepth 100000
set_option maxHeartbeats 4000000
/-! Jud4: what the law says of certificates; drawn runs and papers -/
namespace Tab
open PySem L2 Ab Com
variable {K : PySem.W.Frag}
def F__law_holds : FSp := fun as κ R _ => ∃ (rs : List Row) (bs : List Bool) (T : List Str) (p : Pp), as = [.d (tabD rs bs), .d (ppD p)] ∧ κ = [] ∧ okT rs bs ∧ (∀ row ∈ rs, row.length < 64) ∧ T.length < 64 ∧ (∀ r ∈ rs, ∀ x ∈ r, x.1.p ∈ T ∧ x.1.q ∈ T) ∧ goodP p ∧ R (.d (.bool (judgeT rs bs p))) []
abbrev N__law_holds : List Str := ["table", "paper", "run", "at", "senders", "party", "other", "goal", "action", "k", "p"]
def a__law_holds (K : PySem.W.Frag) : AS :=
  (aSeq (aIfS (aOr (aNot (aTru (aCB aIsi (aCons (aVar 1) (aCons (aC (.r (.ty "tuple"))) aNil))))) (aB (aOp (aIn not) (aOp aIx (aVar 1) (aC (.d (.int 0)))) (aLstD (aCons (aC (.d (.str "stray"))) (aCons (aC (.d (.str "idle"))) (aCons (aC (.d (.str "unready"))) aNil))))))) (aRet (aC (.d (.bool false)))) aNext) (aSeq (aSet 2 (aOp aIx (aVar 1) (aC (.d (.int 1))))) (aSeq (aSet 3 (aCall Tab.F__law_walk (fun _ _ => False) (aCons (aVar 0) (aCons (aVar 2) aNil)))) (aSeq (aIfS (aB (aOp (aIsN id) (aVar 3) (aC (.d .none)))) (aRet (aC (.d (.bool false)))) aNext) (aSeq (aIfS (aB (aOp aEq (aOp aIx (aVar 1) (aC (.d (.int 0)))) (aC (.d (.str "idle"))))) (aSeq (aSet 4 (aLc (aIter (aOp aIx (aOp aIx (aVar 0) (aC (.d (.int 1)))) (aVar 3))) (aGTup 2 (aGCons (aName 8) (aGCons (aName 7) aGNil))) aYes (aOp aIx (aVar 8) (aC (.d (.int 0)))) [8, 7])) (aSeq (aIfS (aOr (aTru (aOp aIx (aOp aIx (aVar 0) (aC (.d (.int 2)))) (aVar 3))) (aB (aOp aNe (aLc (aIter (aOp aIx (aVar 1) (aC (.d (.int 2))))) (aName 6) aYes (aOp aIx (aVar 6) (aC (.d (.int 0)))) [6]) (aCB aSort (aCons (aLc (aIter (aCall F__law_parties (fun _ _ => False) (aCons (aVar 0) aNil))) (aName 10) (aB (aOp (aIn id) (aVar 10) (aVar 4))) (aVar 10) [10]) aNil))))) (aRet (aC (.d (.bool false)))) aNext) (aSeq (aFor (aIter (aOp aIx (aVar 1) (aC (.d (.int 2))))) (aGTup 2 (aGCons (aName 5) (aGCons (aName 6) aGNil))) (aSeq (aSet 7 (aCall Tab.F__law_walk (fun _ _ => False) (aCons (aVar 0) (aCons (aVar 6) aNil)))) (aIfS (aOr (aB (aOp (aIsN id) (aVar 7) (aC (.d .none)))) (aOr (aNot (aTru (aOp aIx (aOp aIx (aVar 0) (aC (.d (.int 2)))) (aVar 7)))) (aNot (aTru (aCall F__law_same_view (fun _ _ => False) (aCons (aVar 2) (aCons (aVar 6) (aCons (aVar 5) aNil)))))))) (aRet (aC (.d (.bool false)))) aNext))) (aRet (aC (.d (.bool true))))))) aNext) (aSeq (aSet 8 (aOp aIx (aVar 1) (aC (.d (.int 2))))) (aSeq (aIfS (aTru (aCall F__law_goes (fun _ _ => False) (aCons (aVar 0) (aCons (aVar 2) (aCons (aVar 8) aNil))))) (aRet (aC (.d (.bool false)))) aNext) (aSeq (aFor (aRng2 (aCons (aC (.d (.int 3))) (aCons (aCB aLen (aCons (aVar 1) aNil)) aNil))) (aName 9) (aIfS (aOr (aNot (aTru (aCall F__law_same_view (fun _ _ => False) (aCons (aVar 2) (aCons (aOp aIx (aVar 1) (aVar 9)) (aCons (aOp aIx (aVar 8) (aOp aSub (aVar 9) (aC (.d (.int 3))))) aNil)))))) (aNot (aTru (aCall F__law_goes (fun _ _ => False) (aCons (aVar 0) (aCons (aOp aIx (aVar 1) (aVar 9)) (aCons (aVar 8) aNil))))))) (aRet (aC (.d (.bool false)))) aNext)) (aRet (aOp aEq (aCB aLen (aCons (aVar 1) aNil)) (aOp aIx (aLstD (aCons (aC (.d (.int 5))) (aCons (aC (.d (.int 4))) aNil))) (aCB aIntOf (aCons (aOp aEq (aOp aIx (aVar 1) (aC (.d (.int 0)))) (aC (.d (.str "unready")))) aNil)))))))))))))
theorem len__law_holds : ∀ as κ R E', F__law_holds as κ R E' → as.length = (["table", "paper"] : List Str).length := by
  rintro as κ R E' ⟨_, _, _, _, rfl, _⟩; rfl
theorem rd__law_holds : ∀ as κ R E', F__law_holds as κ R E' → a__law_holds K (endsA K κ.length R) (startA N__law_holds as) κ := by
  rintro as κ R E' ⟨rs, bs, T, p, rfl, rfl, ht, h64, hT, hin, hp, h⟩
  have fin : ∀ b, R (.d (.bool b)) [] → ∃ a' κ', GhR K 0 (.d (.bool b)) [] a' κ' ∧ R a' κ' := fun b h => ⟨_, _, GhR.refl (Nat.le_refl _), h⟩
  have fin0 : judgeT rs bs p = false → ∃ a' κ', GhR K 0 (.d (.bool false)) [] a' κ' ∧ R a' κ' := fun e => by rw [e] at h; exact fin _ h
  have fin1 : judgeT rs bs p = true → ∃ a' κ', GhR K 0 (.d (.bool true)) [] a' κ' ∧ R a' κ' := fun e => by rw [e] at h; exact fin _ h
  cases p with
  | stray r a f s =>
    obtain ⟨hr, ha, hf, hs⟩ := hp
    have hj : judgeT rs bs (.stray r a f s) = ((walkT rs r 0).isSome && !goesT rs r a && couldT rs r a a.p f && couldT rs r a a.q s) := rfl
    unfold couldT at hj
    refine ⟨true, rfl, _, at_nat (j := 0) rfl, (show 3 ≤ sizeLine by decide), rfl, rfl, ?_⟩
    refine ⟨_, at_nat (j := 1) rfl, lwalk_w ht.g ht.ne hr.a ?_⟩
    cases e : walkT rs r 0 with
    | none =>
      rw [e] at hj
      exact fin0 hj
    | some g =>
      rw [e] at hj
      refine ⟨_, at_nat (j := 0) rfl, _, at_nat (j := 2) rfl, goes_w ht hr ha (bsel_i (fun q => ?_) fun q => ?_)⟩
      · rw [q] at hj; exact fin0 hj
      rw [q] at hj
      refine ⟨⟨by decide, by decide, (by show -(2 ^ 62) ≤ ((5 : Nat) : Int); decide), (by show ((5 : Nat) : Int) < 2 ^ 62; decide)⟩, ?_⟩
      refine for_r (N := 2) (fun i δ κ => κ = [] ∧ (∃ x9, δ = [some (.d (tabD rs bs)), some (.d (ppD (.stray r a f s))), some (.d (runD r)), some (.d (.int g)), none, none, none, none, some (.d (actD a)), x9, none]) ∧ (1 ≤ i → (decide (viewT a.p f = viewT a.p r) && goesT rs f a) = true) ∧ (2 ≤ i → (decide (viewT a.q s = viewT a.q r) && goesT rs s a) = true)) ⟨rfl, ⟨none, rfl⟩, fun z => by omega, fun z => by omega⟩ ?_ ?_
      · rintro δ κ ⟨rfl, ⟨x9, rfl⟩, h1, h2⟩ _
        rw [h1 (by decide), h2 (by decide)] at hj
        refine ⟨(show 2 ≤ sizeLine by decide), _, at_nat (j := 0) rfl, _, rfl, ?_⟩
        exact fin1 hj
      · rintro i δ κ hi ⟨rfl, ⟨x9, rfl⟩, h1, h2⟩ _
        match i, hi with
        | 0, _ =>
          refine ⟨_, at_nat (j := 3) rfl, _, at_nat (j := 0) rfl, same_w hr hf ?_⟩
          by_cases q1 : viewT a.p f = viewT a.p r
          · rw [decide_eq_true q1]
            refine bF rfl ⟨_, at_nat (j := 3) rfl, goes_w ht hf ha ?_⟩
            refine bsel_i (fun q2 => ?_) fun q2 => ?_
            · have q2 : goesT rs f a = false := by revert q2; cases goesT rs f a <;> simp
              rw [q2, Bool.and_false, Bool.and_false] at hj
              exact fin0 hj
            · have q2 : goesT rs f a = true := by revert q2; cases goesT rs f a <;> simp
              exact ⟨rfl, ⟨_, rfl⟩, fun _ => by rw [q2]; rfl, fun z => by omega⟩
          · rw [decide_eq_false q1] at hj ⊢
            rw [Bool.false_and, Bool.and_false] at hj
            exact fin0 hj
        | 1, _ =>
          refine ⟨_, at_nat (j := 4) rfl, _, at_nat (j := 1) rfl, same_w hr hs ?_⟩
          by_cases q1 : viewT a.q s = viewT a.q r
          · rw [decide_eq_true q1]
            refine bF rfl ⟨_, at_nat (j := 4) rfl, goes_w ht hs ha ?_⟩
            refine bsel_i (fun q2 => ?_) fun q2 => ?_
            · have q2 : goesT rs s a = false := by revert q2; cases goesT rs s a <;> simp
              rw [q2, Bool.and_false, Bool.and_false] at hj
              exact fin0 hj
            · have q2 : goesT rs s a = true := by revert q2; cases goesT rs s a <;> simp
              exact ⟨rfl, ⟨_, rfl⟩, fun _ => h1 (Nat.le_refl _), fun _ => by rw [q2]; rfl⟩
          · rw [decide_eq_false q1] at hj ⊢
            rw [Bool.false_and, Bool.and_false] at hj
            exact fin0 hj
  | unready r a o =>
    obtain ⟨hr, ha, ho⟩ := hp
    have hj : judgeT rs bs (.unready r a o) = ((walkT rs r 0).isSome && !goesT rs r a && couldT rs r a a.p o) := rfl
    unfold couldT at hj
    refine ⟨true, rfl, _, at_nat (j := 0) rfl, (show 3 ≤ sizeLine by decide), rfl, rfl, ?_⟩
    refine ⟨_, at_nat (j := 1) rfl, lwalk_w ht.g ht.ne hr.a ?_⟩
    cases e : walkT rs r 0 with
    | none =>
      rw [e] at hj
      exact fin0 hj
    | some g =>
      rw [e] at hj
      refine ⟨_, at_nat (j := 0) rfl, _, at_nat (j := 2) rfl, goes_w ht hr ha (bsel_i (fun q => ?_) fun q => ?_)⟩
      · rw [q] at hj; exact fin0 hj
      rw [q] at hj
      refine ⟨⟨by decide, by decide, (by show -(2 ^ 62) ≤ ((4 : Nat) : Int); decide), (by show ((4 : Nat) : Int) < 2 ^ 62; decide)⟩, ?_⟩
      refine for_r (N := 1) (fun i δ κ => κ = [] ∧ (∃ x9, δ = [some (.d (tabD rs bs)), some (.d (ppD (.unready r a o))), some (.d (runD r)), some (.d (.int g)), none, none, none, none, some (.d (actD a)), x9, none]) ∧ (1 ≤ i → (decide (viewT a.p o = viewT a.p r) && goesT rs o a) = true)) ⟨rfl, ⟨none, rfl⟩, fun z => by omega⟩ ?_ ?_
      · rintro δ κ ⟨rfl, ⟨x9, rfl⟩, h1⟩ _
        rw [h1 (by decide)] at hj
        refine ⟨(show 2 ≤ sizeLine by decide), _, at_nat (j := 0) rfl, _, rfl, ?_⟩
        exact fin1 hj
      · rintro i δ κ hi ⟨rfl, ⟨x9, rfl⟩, h1⟩ _
        match i, hi with
        | 0, _ =>
          refine ⟨_, at_nat (j := 3) rfl, _, at_nat (j := 0) rfl, same_w hr ho ?_⟩
          by_cases q1 : viewT a.p o = viewT a.p r
          · rw [decide_eq_true q1]
            refine bF rfl ⟨_, at_nat (j := 3) rfl, goes_w ht ho ha ?_⟩
            refine bsel_i (fun q2 => ?_) fun q2 => ?_
            · have q2 : goesT rs o a = false := by revert q2; cases goesT rs o a <;> simp
              rw [q2, Bool.and_false, Bool.and_false] at hj
              exact fin0 hj
            · have q2 : goesT rs o a = true := by revert q2; cases goesT rs o a <;> simp
              exact ⟨rfl, ⟨_, rfl⟩, fun _ => by rw [q2]; rfl⟩
          · rw [decide_eq_false q1] at hj ⊢
            rw [Bool.false_and, Bool.and_false] at hj
            exact fin0 hj
  | idle r os =>
    obtain ⟨hr, ho⟩ := hp
    have hj : judgeT rs bs (.idle r os) = idleT rs bs r os := rfl
    unfold idleT at hj
    refine ⟨true, rfl, _, at_nat (j := 0) rfl, (show 3 ≤ sizeLine by decide), rfl, rfl, ?_⟩
    refine ⟨_, at_nat (j := 1) rfl, lwalk_w ht.g ht.ne hr.a ?_⟩
    cases e : walkT rs r 0 with
    | none =>
      rw [e] at hj
      exact fin0 hj
    | some g =>
      obtain ⟨n, rfl, hn, row, b, e1, e2, e3⟩ := walk0 ht e
      have e4 : rs.getD n [] = row := by rw [List.getD_eq_getElem?_getD, e1]; rfl
      rw [e] at hj
      have hj : judgeT rs bs (.idle r os) = (!bs.getD n false && decide (os.map (·.1) = setL (sendL (rs.getD n []))) && os.all fun o => restT rs bs r o.1 o.2) := hj
      rw [e3, e4] at hj
      have hrl := h64 _ (List.mem_of_getElem? e1)
      refine ⟨_, at_nat (j := 0) rfl, ?_⟩
      refine ⟨_, at_nat (j := 1) rfl, rowT row, at_nat (by rw [List.getElem?_map, e1]; rfl), ?_⟩
      refine senders_lc (by omega) (fun a g κ2 Q hq => ⟨rfl, _, at_nat (j := 0) rfl, hq⟩) ?_
      refine ⟨_, at_nat (j := 2) rfl, .bool b, at_nat (by rw [List.getElem?_map, e2]; rfl), bsel_i (fun q => ?_) fun q => ?_⟩
      · rw [q] at hj
        exact fin0 hj
      rw [q, Bool.not_false, Bool.true_and] at hj
      refine ⟨_, at_nat (j := 2) rfl, ?_⟩
      refine lc_d (fun i acc κ' => κ' = [] ∧ acc = ((os.take i).map (·.1)).map .str) ⟨rfl, rfl⟩ ?_ ?_
      · rintro acc κ' ⟨rfl, rfl⟩
        rw [List.length_map, List.take_length]
        refine parties_w hT hin fun ps nd hm h64' hs => ?_
        refine lc_d (fun i acc κ' => κ' = [] ∧ acc = ((ps.take i).filter fun z => decide (z ∈ sendL row)).map .str) ⟨rfl, rfl⟩ ?_ ?_
        · rintro acc κ' ⟨rfl, rfl⟩
          rw [List.length_map, List.take_length]
          refine .inr ⟨_, rfl, Nat.lt_of_le_of_lt (List.length_filter_le ..) h64', fun ys hp2 hs2 => ?_⟩
          have hy : SetL (sendL row) ys := by
            refine ⟨hp2.nodup_iff.mpr (nd.filter _), fun z => ?_, hs2⟩
            rw [hp2.mem_iff, List.mem_filter, hm z, decide_eq_true_eq]
            refine ⟨fun q => q.2, fun q => ⟨?_, q⟩⟩
            unfold sendL at q
            obtain ⟨x, hx, rfl⟩ := List.mem_map.mp q
            exact ⟨row, List.mem_of_getElem? e1, x, hx, .inl rfl⟩
          rw [setL_eq hy] at hj
          refine eq_strs (fun z hz => ?_) (send_ok ht.g e1 hy) ?_
          · obtain ⟨o, ho', rfl⟩ := List.mem_map.mp hz
            exact (ho.a o ho').1
          by_cases q2 : os.map (·.1) = ys
          · rw [decide_eq_true q2, Bool.true_and] at hj
            rw [decide_eq_true q2]
            refine ⟨_, at_nat (j := 2) rfl, ?_⟩
            refine for_d (fun i δ κ => κ = [] ∧ (∃ x5 x6 x7, δ = [some (.d (tabD rs bs)), some (.d (ppD (.idle r os))), some (.d (runD r)), some (.d (.int (n : Nat))), some (.d (.list ((sendL row).map .str))), x5, x6, x7, none, none, none]) ∧ ((os.take i).all fun o => restT rs bs r o.1 o.2) = true) ⟨rfl, ⟨none, none, none, rfl⟩, rfl⟩ ?_ ?_
            · rintro δ κ ⟨rfl, _, ha⟩ _
              rw [List.length_map, List.take_length] at ha
              rw [ha] at hj
              exact fin1 hj
            · rintro i d δ κ hd ⟨rfl, ⟨x5, x6, x7, rfl⟩, ha⟩ _
              obtain ⟨o, ho', rfl⟩ := getM hd
              have hom := List.mem_of_getElem? ho'
              have hog := (ho.a o hom).2
              have bad : restT rs bs r o.1 o.2 = false → judgeT rs bs (.idle r os) = false := fun q => by
                rw [hj]
                refine Bool.eq_false_iff.mpr fun h => ?_
                have := List.all_eq_true.mp h o hom
                rw [q] at this; cases this
              have good : restT rs bs r o.1 o.2 = true → ((os.take (i + 1)).all fun o => restT rs bs r o.1 o.2) = true := fun q => by
                rw [take_get ho', List.all_append, ha, List.all_cons, q]; rfl
              unfold restT at bad good
              refine ⟨rfl, lwalk_w ht.g ht.ne hog.a ?_⟩
              cases e9 : walkT rs o.2 0 with
              | none =>
                rw [e9] at bad
                exact fin0 (bad rfl)
              | some g =>
                obtain ⟨m, rfl, hm', row2, b2, f1, f2, f3⟩ := walk0 ht e9
                rw [e9] at bad good
                have bad : (bs.getD m false && decide (viewT o.1 o.2 = viewT o.1 r)) = false → judgeT rs bs (.idle r os) = false := bad
                have good : (bs.getD m false && decide (viewT o.1 o.2 = viewT o.1 r)) = true → _ := good
                rw [f3] at bad good
                refine ⟨_, at_nat (j := 2) rfl, .bool b2, at_nat (by rw [List.getElem?_map, f2]; rfl), ?_⟩
                cases b2 with
                | false => exact fin0 (bad rfl)
                | true =>
                  refine same_w hr hog ?_
                  by_cases q5 : viewT o.1 o.2 = viewT o.1 r
                  · rw [decide_eq_true q5] at good ⊢
                    exact ⟨rfl, ⟨_, _, _, rfl⟩, good rfl⟩
                  · rw [decide_eq_false q5] at bad ⊢
                    exact fin0 (bad rfl)
          · rw [decide_eq_false q2, Bool.false_and] at hj
            rw [decide_eq_false q2]
            exact fin0 hj
        · rintro i d acc κ' hd ⟨rfl, rfl⟩
          obtain ⟨z, hz, rfl⟩ := getM hd
          refine ⟨rfl, Ab.flat_strs _, ?_⟩
          show bsel (id (inD (.str z) ((sendL row).map .str))) _ _
          rw [inD_str]
          have et : (ps.take (i + 1)).filter (fun z => decide (z ∈ sendL row)) = (ps.take i).filter (fun z => decide (z ∈ sendL row)) ++ if decide (z ∈ sendL row) = true then [z] else [] := by
            rw [take_get hz, List.filter_append, List.filter_cons, List.filter_nil]
          refine bsel_i (fun q => ?_) fun q => ?_
          · rw [show decide (z ∈ sendL row) = true from q, if_pos rfl] at et
            refine ⟨_, rfl, ?_, rfl, by rw [et, List.map_append]; rfl⟩
            rw [List.length_map]
            exact small (Nat.lt_of_le_of_lt (Nat.le_trans (List.length_filter_le ..) (List.length_take_le' ..)) h64') (by decide)
          · rw [show decide (z ∈ sendL row) = false from q, if_neg (by simp), List.append_nil] at et
            exact ⟨rfl, by rw [et]⟩
      · rintro i d acc κ' hd ⟨rfl, rfl⟩
        obtain ⟨o, ho', rfl⟩ := getM hd
        refine ⟨_, at_nat (j := 0) rfl, _, rfl, ?_, rfl, ?_⟩
        · rw [List.length_map, List.length_map]
          have := ho.l
          exact small (take_lt ho') (by omega)
        · rw [take_get ho', List.map_append, List.map_append]; rfl
theorem holds_w {rs : List Row} {bs : List Bool} {T : List Str} {p : Pp} {κ : AK} {R : AR} {E : AX → AK → Prop} (ht : okT rs bs) (h64 : ∀ row ∈ rs, row.length < 64) (hT : T.length < 64) (hin : ∀ r ∈ rs, ∀ x ∈ r, x.1.p ∈ T ∧ x.1.q ∈ T) (hp : goodP p) (h : R (.d (.bool (judgeT rs bs p))) κ) : callW F__law_holds E [.d (tabD rs bs), .d (ppD p)] κ R :=
  callW_i ⟨[], _, _, .nil, rfl, rfl, rs, bs, T, p, rfl, rfl, ht, h64, hT, hin, hp, Nat.zero_le _, rfl, rfl, h⟩
end Tab
set_option Elab.async false
set_option linter.all false
set_option maxRecDepth 100000
set_option maxHeartbeats 4000000
/-! Jud5: drawn actions, runs and papers -/
namespace Tab
open PySem L2 Ab Com
variable {K : PySem.W.Frag}
structure okNs (ps ls : List Str) : Prop where
  p2 : 2 ≤ ps.length
  p3 : ps.length ≤ 9
  nd : ps.Nodup
  pn : ∀ z ∈ ps, isName z
  l1 : 1 ≤ ls.length
  l2 : ls.length ≤ 20
  ln : ∀ z ∈ ls, PyData.strOk z = true
theorem pick_t {zs : List Str} {v : Int} (h0 : 0 ≤ v) (h1 : v < zs.length) : ∃ z, zs[v.toNat]? = some z ∧ z ∈ zs ∧ atI (zs.map PyData.str) v = some (.str z) := by
  obtain ⟨n, rfl⟩ := Int.eq_ofNat_of_zero_le h0
  have hn : n < zs.length := by omega
  have e : zs[n]? = some zs[n] := List.getElem?_eq_getElem hn
  exact ⟨zs[n], e, List.getElem_mem hn, at_nat (by rw [List.getElem?_map, e]; rfl)⟩
def F__law_action : FSp := fun as κ R _ => ∃ (ps ls : List Str) (s : Cell), as = [.c 0, .d (.list (ps.map .str)), .d (.list (ls.map .str))] ∧ κ = [s] ∧ okNs ps ls ∧ isSt s ∧ ∀ a s', goodA a → isSt s' → R (.d (actD a)) [s']
abbrev N__law_action : List Str := ["state", "parties", "labels", "sender", "taker"]
def a__law_action (K : PySem.W.Frag) : AS :=
  (aSeq (aSet 3 (aCall Tab.F__law_draw (fun _ _ => False) (aCons (aVar 0) (aCons (aCB aLen (aCons (aVar 1) aNil)) aNil)))) (aSeq (aSet 4 (aOp aMod (aCB aIntOf (aCons (aOp aAdd (aOp aAdd (aVar 3) (aC (.d (.int 1)))) (aCall Tab.F__law_draw (fun _ _ => False) (aCons (aVar 0) (aCons (aOp aSub (aCB aLen (aCons (aVar 1) aNil)) (aC (.d (.int 1)))) aNil)))) aNil)) (aCB aLen (aCons (aVar 1) aNil)))) (aRet (aTup (aCons (aOp aIx (aVar 1) (aVar 3)) (aCons (aOp aIx (aVar 1) (aVar 4)) (aCons (aOp aIx (aVar 2) (aCall Tab.F__law_draw (fun _ _ => False) (aCons (aVar 0) (aCons (aCB aLen (aCons (aVar 2) aNil)) aNil)))) aNil)))))))
theorem len__law_action : ∀ as κ R E', F__law_action as κ R E' → as.length = (["state", "parties", "labels"] : List Str).length := by
  rintro as κ R E' ⟨_, _, _, rfl, _⟩; rfl
theorem rd__law_action : ∀ as κ R E', F__law_action as κ R E' → a__law_action K (endsA K κ.length R) (startA N__law_action as) κ := by
  rintro as κ R E' ⟨ps, ls, s, rfl, rfl, ok, hs, hR⟩
  have z1 := ok.p2; have z2 := ok.p3; have l1 := ok.l1; have l2 := ok.l2
  refine draw_w hs (by rw [List.length_map]; omega) (by rw [List.length_map]; omega) fun v s hs v0 v1 => ?_
  rw [List.length_map] at v1
  refine draw_w hs (by show (0 : Int) < ((ps.map PyData.str).length : Int) - 1; rw [List.length_map]; omega) (by show ((ps.map PyData.str).length : Int) - 1 < 1073741824; rw [List.length_map]; omega) fun w s hs w0 w1 => ?_
  obtain ⟨z, ez, hzm, az⟩ := pick_t v0 v1
  have t0 : 0 ≤ (v + 1 + w) % (ps.length : Int) := Int.emod_nonneg _ (by omega)
  have t1 : (v + 1 + w) % (ps.length : Int) < ps.length := Int.emod_lt_of_pos _ (by omega)
  obtain ⟨t, et, htm, at'⟩ := pick_t t0 t1
  refine ⟨by show (0 : Int) < ((ps.map PyData.str).length : Int); rw [List.length_map]; omega, ?_⟩
  refine ⟨_, az, .str t, (by show atI _ ((v + 1 + w) % ((ps.map PyData.str).length : Int)) = _; rw [List.length_map]; exact at'), draw_w hs (by rw [List.length_map]; omega) (by rw [List.length_map]; omega) fun x s hs x0 x1 => ?_⟩
  rw [List.length_map] at x1
  obtain ⟨l, el, hlm, al⟩ := pick_t x0 x1
  refine ⟨_, al, (show 3 ≤ sizeLine by decide), _, _, GhR.refl (Nat.le_refl _), hR ⟨z, t, l⟩ s ⟨name_strOk (ok.pn z hzm), name_strOk (ok.pn t htm), ok.ln l hlm⟩ hs⟩
theorem sel1t {s : Cell} {κr : AK} (hs : isSt s) : selK [0] (s :: κr) = some [s] := by obtain ⟨ns', i', a', kk', b', rfl, hi'⟩ := hs; rfl
theorem cl0t {s : Cell} (hs : isSt s) : (([s] : AK).take 1).all (okC 1) = true := by obtain ⟨ns', i', a', kk', b', rfl, hi'⟩ := hs; rfl
theorem action_w {E : AX → AK → Prop} {R : AR} {κr : AK} {ps ls : List Str} {s : Cell} (ok : okNs ps ls) (hs : isSt s) (h : ∀ a s', goodA a → isSt s' → R (.d (actD a)) (s' :: κr)) : callW F__law_action E [.c 0, .d (.list (ps.map .str)), .d (.list (ls.map .str))] (s :: κr) R :=
  callW_i ⟨[0], _, _, by decide, rfl, sel1t hs, ps, ls, s, rfl, rfl, ok, hs, fun a s' ha hs' => ⟨Nat.le_refl _, (by obtain ⟨ns', i', a', kk', b', rfl, hi'⟩ := hs'; rfl), rfl, h a s' ha hs'⟩⟩
/-! ### slices of data -/
theorem cut_map {α β : Type} (f : α → β) (l : List α) (lo hi : Option Int) : cutD (l.map f) lo hi = (cutD l lo hi).map f := by
  unfold cutD
  rw [List.length_map, List.map_take, List.map_drop]
theorem cut_mem {α : Type} {l : List α} {lo hi : Option Int} {x : α} (h : x ∈ cutD l lo hi) : x ∈ l := by
  unfold cutD at h
  exact List.mem_of_mem_drop (List.mem_of_mem_take h)
theorem cut_len {α : Type} (l : List α) (lo hi : Option Int) : (cutD l lo hi).length ≤ l.length := by
  unfold cutD
  rw [List.length_take, List.length_drop]; omega
theorem cut_good {r : List Act} (h : goodR r) (lo hi : Option Int) : goodR (cutD r lo hi) := ⟨fun a ha => h.a a (cut_mem ha), Nat.le_trans (cut_len ..) h.l⟩
def F__law_run : FSp := fun as κ R _ => ∃ (rs : List Row) (bs : List Bool) (ps ls : List Str) (s : Cell), as = [.c 0, .d (tabD rs bs), .d (.list (ps.map .str)), .d (.list (ls.map .str))] ∧ κ = [s] ∧ okNs ps ls ∧ okT rs bs ∧ (∀ row ∈ rs, row.length ≤ 1000000) ∧ isSt s ∧ ∀ r s', goodR r → isSt s' → R (.d (runD r)) [s']
abbrev N__law_run : List Str := ["state", "table", "parties", "labels", "run", "at", "k", "action", "place", "kind"]
def a__law_run (K : PySem.W.Frag) : AS :=
  (aSeq (aSet 4 (aLst aNil)) (aSeq (aSet 5 (aC (.d (.int 0)))) (aSeq (aFor (aRng1 (aCons (aCall Tab.F__law_draw (fun _ _ => False) (aCons (aVar 0) (aCons (aC (.d (.int 7))) aNil))) aNil)) (aName 6) (aIfS (aAnd (aTru (aOp aIx (aOp aIx (aVar 1) (aC (.d (.int 1)))) (aVar 5))) (aOr (aB (aOp aGt (aCall Tab.F__law_draw (fun _ _ => False) (aCons (aVar 0) (aCons (aC (.d (.int 4))) aNil))) (aC (.d (.int 0))))) (aNot (aTru (aOp aIx (aOp aIx (aVar 1) (aC (.d (.int 2)))) (aVar 5)))))) (aSeq (aAsg (aOp aIx (aOp aIx (aOp aIx (aVar 1) (aC (.d (.int 1)))) (aVar 5)) (aCall Tab.F__law_draw (fun _ _ => False) (aCons (aVar 0) (aCons (aCB aLen (aCons (aOp aIx (aOp aIx (aVar 1) (aC (.d (.int 1)))) (aVar 5)) aNil)) aNil)))) (aGTup 2 (aGCons (aName 7) (aGCons (aName 5) aGNil)))) (aDrop (aBM "list" aAppend (aVar 4) (aCons (aVar 7) aNil)))) aNext)) (aGh K (aSeq (aSet 8 (aCall Tab.F__law_draw (fun _ _ => False) (aCons (aVar 0) (aCons (aC (.d (.int 7))) aNil)))) (aSeq (aSet 9 (aCall Tab.F__law_draw (fun _ _ => False) (aCons (aVar 0) (aCons (aC (.d (.int 8))) aNil)))) (aCut (aIfS (aB (aOp aEq (aVar 9) (aC (.d (.int 6))))) (aSet 4 (aOp (aCat false) (aSl (aVar 4) aNoPart (aPart (aVar 8))) (aSl (aVar 4) (aPart (aOp aAdd (aVar 8) (aC (.d (.int 1))))) aNoPart))) aNext) (aCut (aIfS (aB (aOp aEq (aVar 9) (aC (.d (.int 7))))) (aSet 4 (aOp (aCat false) (aOp (aCat false) (aSl (aVar 4) aNoPart (aPart (aVar 8))) (aLstD (aCons (aCall F__law_action (fun _ _ => False) (aCons (aVar 0) (aCons (aVar 2) (aCons (aVar 3) aNil)))) aNil))) (aSl (aVar 4) (aPart (aVar 8)) aNoPart))) aNext) (aRet (aVar 4))))))))))
theorem len__law_run : ∀ as κ R E', F__law_run as κ R E' → as.length = (["state", "table", "parties", "labels"] : List Str).length := by
  rintro as κ R E' ⟨_, _, _, _, _, rfl, _⟩; rfl
theorem rd__law_run : ∀ as κ R E', F__law_run as κ R E' → a__law_run K (endsA K κ.length R) (startA N__law_run as) κ := by
  rintro as κ R E' ⟨rs, bs, ps, ls, s, rfl, rfl, ok, ht, hlen, hs, hR⟩
  refine ⟨(show 0 ≤ sizeLine by decide), draw_w hs (by decide) (by decide) fun v s hs v0 v1 => ⟨by omega, by omega, ?_⟩⟩
  refine for_r (fun i δ κ => ∃ (s : Cell) (r : List Act) (t : Nat) (x6 x7 : Option AV), δ = [some (.c 0), some (.d (tabD rs bs)), some (.d (.list (ps.map .str))), some (.d (.list (ls.map .str))), some (.c 1), some (.d (.int t)), x6, x7, none, none] ∧ κ = [s, .ld (r.map actD)] ∧ isSt s ∧ t < rs.length ∧ r.length ≤ i ∧ ∀ a ∈ r, goodA a) ⟨s, [], 0, none, none, rfl, rfl, hs, List.length_pos_iff.mpr ht.ne, Nat.le_refl _, fun a h => by cases h⟩ ?_ ?_
  · rintro δ κ ⟨s, r, t, x6, x7, rfl, rfl, hs, htl, hl, ha⟩ _
    have hr : goodR r := ⟨ha, by omega⟩
    refine ⟨[some (.c 0), some (.d (tabD rs bs)), some (.d (.list (ps.map .str))), some (.d (.list (ls.map .str))), some (.d (runD r)), none, none, none, none, none], [s], ?_, ?_⟩
    · refine ((GhS.forget (K := K) (δ := [some (.c 0), some (.d (tabD rs bs)), some (.d (.list (ps.map .str))), some (.d (.list (ls.map .str))), some (.c 1), some (.d (.int t)), x6, x7, none, none]) (δ' := [some (.c 0), some (.d (tabD rs bs)), some (.d (.list (ps.map .str))), some (.d (.list (ls.map .str))), some (.c 1), none, none, none, none, none]) (Nat.le_succ _) rfl ?_).trans (GhS.freeze (κ := [s, .ld (r.map actD)]) (Nat.le_succ _) 1 (r.map actD) rfl)).trans ?_
      · intro i a h
        match i, h with
        | 0, h | 1, h | 2, h | 3, h | 4, h => exact h
        | 5, h | 6, h | 7, h | 8, h | 9, h => cases h
        | i + 10, h => simp at h
      · obtain ⟨ns', i', a', kk', b', rfl, hi'⟩ := hs
        exact GhS.take 1 (Nat.le_refl _) (Nat.le_succ _) rfl rfl
    refine draw_w hs (by decide) (by decide) fun p s hs p0 p1 => ?_
    refine draw_w hs (by decide) (by decide) fun k s hs k0 k1 => ?_
    have step : ∀ (P Q : Prop), (Q → P) → Q → P := fun _ _ h => h
    refine ⟨fun δ κ => ∃ (s : Cell) (r : List Act) (q : Bool), δ = [some (.c 0), some (.d (tabD rs bs)), some (.d (.list (ps.map .str))), some (.d (.list (ls.map .str))), some (.d (runD r)), none, none, none, some (.d (.int p)), some (.d (.int k))] ∧ κ = [s] ∧ isSt s ∧ (∀ a ∈ r, goodA a) ∧ r.length ≤ 40, ?_, ?_⟩
    · have h7 : r.length ≤ 7 := by omega
      refine bsel_i (fun _ => ?_) fun _ => ⟨s, r, true, rfl, rfl, hs, ha, by omega⟩
      have e1 : cutD (r.map actD) none (some p) = (cutD r none (some p)).map actD := cut_map ..
      have e2 : cutD (r.map actD) (some (p + 1)) none = (cutD r (some (p + 1)) none).map actD := cut_map ..
      have c1 := cut_len r none (some p); have c2 := cut_len r (some (p + 1)) none
      refine ⟨_, _, rfl, rfl, sl100 (by rw [e1, e2, List.length_map, List.length_map]; omega), s, cutD r none (some p) ++ cutD r (some (p + 1)) none, true, ?_, rfl, hs, fun a h => ?_, by rw [List.length_append]; omega⟩
      · rw [e1, e2, ← List.map_append]; rfl
      · rcases List.mem_append.mp h with h | h
        · exact ha a (cut_mem h)
        · exact ha a (cut_mem h)
    · rintro δ κ ⟨s, r, _, rfl, rfl, hs, ha, h40⟩ _
      refine ⟨fun δ κ => ∃ (s : Cell) (r : List Act), δ = [some (.c 0), some (.d (tabD rs bs)), some (.d (.list (ps.map .str))), some (.d (.list (ls.map .str))), some (.d (runD r)), none, none, none, some (.d (.int p)), some (.d (.int k))] ∧ κ = [s] ∧ isSt s ∧ goodR r, ?_, ?_⟩
      · refine bsel_i (fun _ => ?_) fun _ => ⟨s, r, rfl, rfl, hs, ha, by omega⟩
        have e1 : cutD (r.map actD) none (some p) = (cutD r none (some p)).map actD := cut_map ..
        have e2 : cutD (r.map actD) (some p) none = (cutD r (some p) none).map actD := cut_map ..
        have c1 := cut_len r none (some p); have c2 := cut_len r (some p) none
        refine action_w ok hs fun a s hga hs => ⟨(show 1 ≤ sizeLine by decide), _, _, rfl, rfl, sl100 (by rw [e1, List.length_map]; show _ + 1 ≤ _; omega), _, _, rfl, rfl, sl100 (by rw [e1, e2, List.length_append, List.length_map, List.length_map]; show _ + 1 + _ ≤ _; omega), s, cutD r none (some p) ++ [a] ++ cutD r (some p) none, ?_, rfl, hs, fun a' h => ?_, by rw [List.length_append, List.length_append]; show _ + 1 + _ ≤ _; omega⟩
        · rw [e1, e2]
          have : (cutD r none (some p)).map actD ++ [actD a] ++ (cutD r (some p) none).map actD = (cutD r none (some p) ++ [a] ++ cutD r (some p) none).map actD := by rw [List.map_append, List.map_append]; rfl
          rw [this]; rfl
        · rcases List.mem_append.mp h with h | h
          · rcases List.mem_append.mp h with h | h
            · exact ha _ (cut_mem h)
            · rw [List.mem_singleton.mp h]; exact hga
          · exact ha _ (cut_mem h)
      · rintro δ κ ⟨s, r, rfl, rfl, hs, hg⟩ _
        exact ⟨_, _, GhR.refl (Nat.le_refl _), hR r s hg hs⟩
  · rintro i δ κ hi ⟨s, r, t, x6, x7, rfl, rfl, hs, htl, hl, ha⟩ _
    have hrow : rs[t]? = some rs[t] := List.getElem?_eq_getElem htl
    have hrowm := List.getElem_mem htl
    have htb : t < bs.length := by rw [ht.bl]; exact htl
    have hb : bs[t]? = some bs[t] := List.getElem?_eq_getElem htb
    generalize rs[t] = row at hrow hrowm
    generalize bs[t] = b at hb
    have g1 : atI (rs.map rowT) (t : Int) = some (rowT row) := at_nat (by rw [List.getElem?_map, hrow]; rfl)
    have g2 : atI (bs.map PyData.bool) (t : Int) = some (.bool b) := at_nat (by rw [List.getElem?_map, hb]; rfl)
    have skip : ∀ s, isSt s → ∃ (s' : Cell) (r' : List Act) (t' : Nat) (x6' x7' : Option AV), [some (AV.c 0), some (.d (tabD rs bs)), some (.d (.list (ps.map .str))), some (.d (.list (ls.map .str))), some (.c 1), some (.d (.int t)), some (.d (.int (0 + (i : Int)))), x7, none, none] = [some (AV.c 0), some (.d (tabD rs bs)), some (.d (.list (ps.map .str))), some (.d (.list (ls.map .str))), some (.c 1), some (.d (.int t')), x6', x7', none, none] ∧ ([s, .ld (r.map actD)] : AK) = [s', .ld (r'.map actD)] ∧ isSt s' ∧ t' < rs.length ∧ r'.length ≤ i + 1 ∧ ∀ a ∈ r', goodA a := fun s hs => ⟨s, r, t, _, _, rfl, rfl, hs, htl, by omega, ha⟩
    refine ⟨_, at_nat (j := 1) rfl, _, g1, bsel_i (fun q => ?_) fun q => skip s hs⟩
    have hne : row ≠ [] := fun e => by rw [e] at q; cases q
    have hpos : 0 < row.length := List.length_pos_iff.mpr hne
    have go : ∀ (A : AEnds) s, isSt s → (∀ δ κ, (∃ (s : Cell) (r : List Act) (t : Nat) (x6 x7 : Option AV), δ = [some (.c 0), some (.d (tabD rs bs)), some (.d (.list (ps.map .str))), some (.d (.list (ls.map .str))), some (.c 1), some (.d (.int t)), x6, x7, none, none] ∧ κ = [s, .ld (r.map actD)] ∧ isSt s ∧ t < rs.length ∧ r.length ≤ i + 1 ∧ ∀ a ∈ r, goodA a) → A.nx δ κ) → (aSeq (aAsg (aOp aIx (aOp aIx (aOp aIx (aVar 1) (aC (.d (.int 1)))) (aVar 5)) (aCall Tab.F__law_draw (fun _ _ => False) (aCons (aVar 0) (aCons (aCB aLen (aCons (aOp aIx (aOp aIx (aVar 1) (aC (.d (.int 1)))) (aVar 5)) aNil)) aNil)))) (aGTup 2 (aGCons (aName 7) (aGCons (aName 5) aGNil)))) (aDrop (aBM "list" aAppend (aVar 4) (aCons (aVar 7) aNil))))
        A
        [some (.c 0), some (.d (tabD rs bs)), some (.d (.list (ps.map .str))), some (.d (.list (ls.map .str))), some (.c 1), some (.d (.int t)), some (.d (.int (0 + (i : Int)))), x7, none, none] [s, .ld (r.map actD)] := by
      intro A s hs hnx
      have hlr := hlen row hrowm
      refine ⟨_, at_nat (j := 1) rfl, _, g1, _, at_nat (j := 1) rfl, _, g1, ?_⟩
      refine draw_w hs (by show (0 : Int) < ((row.map entT).length : Int); rw [List.length_map]; omega) (by show ((row.map entT).length : Int) < 1073741824; rw [List.length_map]; omega) fun w s hs w0 w1 => ?_
      have w1 : w < ((row.map entT).length : Int) := w1
      rw [List.length_map] at w1
      obtain ⟨m, rfl⟩ := Int.eq_ofNat_of_zero_le w0
      have hm : m < row.length := by omega
      have hx : row[m]? = some row[m] := List.getElem?_eq_getElem hm
      have hxm := List.getElem_mem hm
      generalize row[m] = x at hx hxm
      obtain ⟨x0, x1⟩ := ht.g.g row hrowm x hxm
      have hga := ht.g.a row hrowm x hxm
      obtain ⟨a, g⟩ := x
      obtain ⟨u, rfl⟩ := Int.eq_ofNat_of_zero_le x0
      refine ⟨entT (a, (u : Int)), at_nat (by rw [List.getElem?_map, hx]; rfl), rfl, rfl, ?_⟩
      refine ⟨Nat.lt_of_le_of_lt (by rw [List.length_map]; omega : (r.map actD).length ≤ 7) (by decide), hnx _ _ ⟨s, r ++ [a], u, _, _, rfl, by rw [List.map_append]; rfl, hs, (by omega), by rw [List.length_append]; show r.length + 1 ≤ _; omega, fun a' h => ?_⟩⟩
      rcases List.mem_append.mp h with h | h
      · exact ha a' h
      · rw [List.mem_singleton.mp h]; exact hga
    refine draw_w hs (by decide) (by decide) fun w s hs w0 w1 => ?_
    refine bsel_i (fun _ => ?_) fun _ => ?_
    · exact go _ s hs fun _ _ h => h
    · refine ⟨_, at_nat (j := 2) rfl, _, g2, ?_⟩
      refine bsel_i (fun _ => ?_) fun _ => skip s hs
      exact go _ s hs fun _ _ h => h
end Tab
set_option Elab.async false
set_option linter.all false
set_option maxRecDepth 100000
set_option maxHeartbeats 4000000
/-! Jud6: drawn papers -/
namespace Tab
open PySem L2 Ab Com
variable {K : PySem.W.Frag}
theorem run_w {E : AX → AK → Prop} {R : AR} {κr : AK} {rs : List Row} {bs : List Bool} {ps ls : List Str} {s : Cell} (ok : okNs ps ls) (ht : okT rs bs) (hl : ∀ row ∈ rs, row.length ≤ 1000000) (hs : isSt s) (h : ∀ r s', goodR r → isSt s' → R (.d (runD r)) (s' :: κr)) : callW F__law_run E [.c 0, .d (tabD rs bs), .d (.list (ps.map .str)), .d (.list (ls.map .str))] (s :: κr) R :=
  callW_i ⟨[0], _, _, by decide, rfl, sel1t hs, rs, bs, ps, ls, s, rfl, rfl, ok, ht, hl, hs, fun r s' hr hs' => ⟨Nat.le_refl _, (by obtain ⟨ns', i', a', kk', b', rfl, hi'⟩ := hs'; rfl), rfl, h r s' hr hs'⟩⟩
def F__law_paper : FSp := fun as κ R _ => ∃ (rs : List Row) (bs : List Bool) (ps ls : List Str) (s : Cell), as = [.c 0, .d (tabD rs bs), .d (.list (ps.map .str)), .d (.list (ls.map .str))] ∧ κ = [s] ∧ okNs ps ls ∧ okT rs bs ∧ (∀ row ∈ rs, row.length ≤ 1000000) ∧ isSt s ∧ ∀ p s', goodP p → isSt s' → R (.d (ppD p)) [s']
abbrev N__law_paper : List Str := ["state", "table", "parties", "labels", "kind", "runs", "others", "party", "k"]
def a__law_paper (K : PySem.W.Frag) : AS :=
  (aSeq (aSet 4 (aCall Tab.F__law_draw (fun _ _ => False) (aCons (aVar 0) (aCons (aC (.d (.int 3))) aNil)))) (aSeq (aSet 5 (aLc (aRng1 (aCons (aC (.d (.int 3))) aNil)) (aName 8) aYes (aCall F__law_run (fun _ _ => False) (aCons (aVar 0) (aCons (aVar 1) (aCons (aVar 2) (aCons (aVar 3) aNil))))) [8])) (aSeq (aIfS (aB (aOp aEq (aVar 4) (aC (.d (.int 0))))) (aRet (aTup (aCons (aC (.d (.str "stray"))) (aCons (aOp aIx (aVar 5) (aC (.d (.int 0)))) (aCons (aCall F__law_action (fun _ _ => False) (aCons (aVar 0) (aCons (aVar 2) (aCons (aVar 3) aNil)))) (aCons (aOp aIx (aVar 5) (aC (.d (.int 1)))) (aCons (aOp aIx (aVar 5) (aC (.d (.int 2)))) aNil))))))) aNext) (aSeq (aIfS (aB (aOp aEq (aVar 4) (aC (.d (.int 1))))) (aRet (aTup (aCons (aC (.d (.str "unready"))) (aCons (aOp aIx (aVar 5) (aC (.d (.int 0)))) (aCons (aCall F__law_action (fun _ _ => False) (aCons (aVar 0) (aCons (aVar 2) (aCons (aVar 3) aNil)))) (aCons (aOp aIx (aVar 5) (aC (.d (.int 1)))) aNil)))))) aNext) (aSeq (aSet 6 (aLst aNil)) (aSeq (aFor (aIter (aCB aSort (aCons (aVar 2) aNil))) (aName 7) (aIfS (aB (aOp aEq (aCall Tab.F__law_draw (fun _ _ => False) (aCons (aVar 0) (aCons (aC (.d (.int 2))) aNil))) (aC (.d (.int 1))))) (aDrop (aBM "list" aAppend (aVar 6) (aCons (aTup (aCons (aVar 7) (aCons (aCall F__law_run (fun _ _ => False) (aCons (aVar 0) (aCons (aVar 1) (aCons (aVar 2) (aCons (aVar 3) aNil))))) aNil))) aNil))) aNext)) (aGh K (aRet (aTup (aCons (aC (.d (.str "idle"))) (aCons (aOp aIx (aVar 5) (aC (.d (.int 0)))) (aCons (aVar 6) aNil))))))))))))
theorem len__law_paper : ∀ as κ R E', F__law_paper as κ R E' → as.length = (["state", "table", "parties", "labels"] : List Str).length := by
  rintro as κ R E' ⟨_, _, _, _, _, rfl, _⟩; rfl
theorem rd__law_paper : ∀ as κ R E', F__law_paper as κ R E' → a__law_paper K (endsA K κ.length R) (startA N__law_paper as) κ := by
  rintro as κ R E' ⟨rs, bs, ps, ls, s, rfl, rfl, ok, ht, hlen, hs, hR⟩
  refine draw_w hs (by decide) (by decide) fun v s hs v0 v1 => ?_
  refine ⟨by decide, by decide, ?_⟩
  refine lc_r (fun i acc κ => ∃ (s : Cell) (l : List (List Act)), κ = [s] ∧ isSt s ∧ acc = l.map runD ∧ l.length = i ∧ ∀ r ∈ l, goodR r) ⟨s, [], rfl, hs, rfl, rfl, fun r h => by cases h⟩ ?_ ?_
  · rintro acc κ ⟨s, l, rfl, hs, rfl, hl, hg⟩
    obtain ⟨a, b, c, rfl⟩ : ∃ a b c, l = [a, b, c] := by
      match l, hl with
      | [a, b, c], _ => exact ⟨a, b, c, rfl⟩
    have ga := hg a (by simp); have gb := hg b (by simp); have gc := hg c (by simp)
    refine bsel_i (fun _ => ?_) fun _ => ?_
    · refine ⟨_, at_nat (j := 0) rfl, action_w ok hs fun x s hx hs => ⟨_, at_nat (j := 1) rfl, _, at_nat (j := 2) rfl, (show 5 ≤ sizeLine by decide), _, _, GhR.refl (Nat.le_refl _), hR (.stray a x b c) s ⟨ga, hx, gb, gc⟩ hs⟩⟩
    refine bsel_i (fun _ => ?_) fun _ => ?_
    · refine ⟨_, at_nat (j := 0) rfl, action_w ok hs fun x s hx hs => ⟨_, at_nat (j := 1) rfl, (show 4 ≤ sizeLine by decide), _, _, GhR.refl (Nat.le_refl _), hR (.unready a x b) s ⟨ga, hx, gb⟩ hs⟩⟩
    refine ⟨(show 0 ≤ sizeLine by decide), ?_⟩
    have p3 := ok.p3
    refine .inr ⟨ps, rfl, by omega, fun ys hp _ => ?_⟩
    have hyl : ys.length = ps.length := hp.length_eq
    refine for_d (fun i δ κ => ∃ (s : Cell) (os : Oth) (x7 : Option AV), δ = [some (.c 0), some (.d (tabD rs bs)), some (.d (.list (ps.map .str))), some (.d (.list (ls.map .str))), some (.d (.int v)), some (.d (.list [runD a, runD b, runD c])), some (.c 1), x7, none] ∧ κ = [s, .ld (os.map othD)] ∧ isSt s ∧ os.length ≤ i ∧ ∀ o ∈ os, PyData.strOk o.1 = true ∧ goodR o.2) ⟨s, [], none, rfl, rfl, hs, Nat.le_refl _, fun o h => by cases h⟩ ?_ ?_
    · rintro δ κ ⟨s, os, x7, rfl, rfl, hs, hl, hg⟩ _
      rw [List.length_map] at hl
      refine ⟨[some (.c 0), some (.d (tabD rs bs)), some (.d (.list (ps.map .str))), some (.d (.list (ls.map .str))), some (.d (.int v)), some (.d (.list [runD a, runD b, runD c])), some (.d (.list (os.map othD))), none, none], [s], ?_, ?_⟩
      · refine ((GhS.forget (K := K) (δ := [some (.c 0), some (.d (tabD rs bs)), some (.d (.list (ps.map .str))), some (.d (.list (ls.map .str))), some (.d (.int v)), some (.d (.list [runD a, runD b, runD c])), some (.c 1), x7, none]) (δ' := [some (.c 0), some (.d (tabD rs bs)), some (.d (.list (ps.map .str))), some (.d (.list (ls.map .str))), some (.d (.int v)), some (.d (.list [runD a, runD b, runD c])), some (.c 1), none, none]) (Nat.le_succ _) rfl ?_).trans (GhS.freeze (κ := [s, .ld (os.map othD)]) (Nat.le_succ _) 1 (os.map othD) rfl)).trans ?_
        · intro i a h
          match i, h with
          | 0, h | 1, h | 2, h | 3, h | 4, h | 5, h | 6, h => exact h
          | 7, h | 8, h => cases h
          | i + 9, h => simp at h
        · obtain ⟨ns', i', a', kk', b', rfl, hi'⟩ := hs
          exact GhS.take 1 (Nat.le_refl _) (Nat.le_succ _) rfl rfl
      refine ⟨_, at_nat (j := 0) rfl, (show 3 ≤ sizeLine by decide), _, _, GhR.refl (Nat.le_refl _), hR (.idle a os) s ⟨ga, hg, by omega⟩ hs⟩
    · rintro i d δ κ hd ⟨s, os, x7, rfl, rfl, hs, hl, hg⟩ _
      obtain ⟨z, hz, rfl⟩ := getM hd
      have hzm := hp.mem_iff.mp (List.mem_of_getElem? hz)
      have hi := (List.getElem?_eq_some_iff.mp hz).1
      refine draw_w hs (by decide) (by decide) fun w s hs w0 w1 => ?_
      refine bsel_i (fun _ => ?_) fun _ => ⟨s, os, _, rfl, rfl, hs, by omega, hg⟩
      refine ⟨rfl, run_w (κr := [.ld (os.map othD)]) ok ht hlen hs fun r s hr hs => ?_⟩
      refine ⟨(show 2 ≤ sizeLine by decide), Nat.lt_of_le_of_lt (by rw [List.length_map]; omega : (os.map othD).length ≤ 100) (by decide), s, os ++ [(z, r)], _, rfl, by rw [List.map_append]; rfl, hs, by rw [List.length_append]; show _ + 1 ≤ _; omega, fun o h => ?_⟩
      rcases List.mem_append.mp h with h | h
      · exact hg o h
      · rw [List.mem_singleton.mp h]; exact ⟨name_strOk (ok.pn z hzm), hr⟩
  · rintro i acc κ hi ⟨s, l, rfl, hs, rfl, hl, hg⟩
    refine run_w (κr := []) ok ht hlen hs fun r s hr hs => ?_
    refine ⟨_, rfl, Nat.lt_of_le_of_lt (by rw [List.length_map]; omega : (l.map runD).length ≤ 100) (by decide), s, l ++ [r], rfl, hs, by rw [List.map_append]; rfl, by rw [List.length_append, hl]; rfl, fun x h => ?_⟩
    rcases List.mem_append.mp h with h | h
    · exact hg x h
    · rw [List.mem_singleton.mp h]; exact hr
theorem paper_w {E : AX → AK → Prop} {R : AR} {κr : AK} {rs : List Row} {bs : List Bool} {ps ls : List Str} {s : Cell} (ok : okNs ps ls) (ht : okT rs bs) (hl : ∀ row ∈ rs, row.length ≤ 1000000) (hs : isSt s) (h : ∀ p s', goodP p → isSt s' → R (.d (ppD p)) (s' :: κr)) : callW F__law_paper E [.c 0, .d (tabD rs bs), .d (.list (ps.map .str)), .d (.list (ls.map .str))] (s :: κr) R :=
  callW_i ⟨[0], _, _, by decide, rfl, sel1t hs, rs, bs, ps, ls, s, rfl, rfl, ok, ht, hl, hs, fun p s' hp hs' => ⟨Nat.le_refl _, (by obtain ⟨ns', i', a', kk', b', rfl, hi'⟩ := hs'; rfl), rfl, h p s' hp hs'⟩⟩
theorem nm_w {s : Cell} {κr : AK} {m : Int} {E : AX → AK → Prop} {R : AR} (hs : isSt s) (h0 : 0 ≤ m) (h1 : m.toNat ≤ 9) (k : ∀ (zs : List Str) (s' : Cell), isSt s' → zs.length = m.toNat → zs.Nodup → (∀ z ∈ zs, isName z) → R (.d (.list (zs.map .str))) (s' :: κr)) : callW Tab.F__law_names E [.c 0, .d (.int m), .d (.list [])] (s :: κr) R :=
  callW_i ⟨[0], _, _, by decide, rfl, sel1t hs, s, m, [], rfl, rfl, hs, h0, (by show m.toNat + 0 ≤ 9; omega), fun zs s' hs' q1 q2 q3 => ⟨Nat.le_refl _, (by obtain ⟨ns', i', a', kk', b', rfl, hi'⟩ := hs'; rfl), rfl, k zs s' hs' q1 q2 fun z hz => (q3 z hz).1⟩⟩
/-- a drawn table is walked -/
theorem okT_of {ps ls : List Str} {n : Nat} {rs : List Row} {bs : List Bool} (h : okTab ps ls n rs bs) (hp : ∀ z ∈ ps, isName z) (hl : ∀ z ∈ ls, isName z) (hn : 1 ≤ n) : okT rs bs :=
  ⟨okG_of h hp hl, fun e => by have := h.len; rw [e] at this; simp at this; omega, by rw [h.bl, h.len]⟩
theorem parts_of {ps ls : List Str} {n : Nat} {rs : List Row} {bs : List Bool} (h : okTab ps ls n rs bs) : ∀ r ∈ rs, ∀ x ∈ r, x.1.p ∈ ps ∧ x.1.q ∈ ps := fun r hr x hx => ⟨((h.ok r hr).1.a x hx).1.p, ((h.ok r hr).1.a x hx).1.q⟩
end Tab
set_option Elab.async false
set_option linter.all false
set_option maxRecDepth 100000
set_option maxHeartbeats 4000000
namespace K23
open PySem L2 Ab Com Tab
def topS (i : Nat) : Stmt := PySem.Challenge.pw_pactloom_k23_judging_papers.main.body.getD i (.Pass ⟨0, 0, 0, 0⟩)
abbrev s__law_state : Stmt := topS 15
theorem sc__law_state : FnScope Tab.N__law_state ["script"] (defScope s__law_state) := ⟨rfl, rfl, rfl, by decide +kernel, rfl, by decide +kernel, by decide +kernel⟩
abbrev s__law_draw : Stmt := topS 16
theorem sc__law_draw : FnScope Tab.N__law_draw ["state", "limit"] (defScope s__law_draw) := ⟨rfl, rfl, rfl, by decide +kernel, rfl, by decide +kernel, by decide +kernel⟩
abbrev s__law_name : Stmt := topS 17
theorem sc__law_name : FnScope Tab.N__law_name ["state"] (defScope s__law_name) := ⟨rfl, rfl, rfl, by decide +kernel, rfl, by decide +kernel, by decide +kernel⟩
abbrev s__law_names : Stmt := topS 18
theorem sc__law_names : FnScope Tab.N__law_names ["state", "count", "taken"] (defScope s__law_names) := ⟨rfl, rfl, rfl, by decide +kernel, rfl, by decide +kernel, by decide +kernel⟩
abbrev s__law_edge : Stmt := topS 20
theorem sc__law_edge : FnScope Tab.N__law_edge ["state", "row", "parties", "labels", "goal"] (defScope s__law_edge) := ⟨rfl, rfl, rfl, by decide +kernel, rfl, by decide +kernel, by decide +kernel⟩
abbrev s__law_table : Stmt := topS 19
theorem sc__law_table : FnScope Tab.N__law_table ["state", "parties", "labels", "size"] (defScope s__law_table) := ⟨rfl, rfl, rfl, by decide +kernel, rfl, by decide +kernel, by decide +kernel⟩
abbrev s__law_action : Stmt := topS 36
theorem sc__law_action : FnScope Tab.N__law_action ["state", "parties", "labels"] (defScope s__law_action) := ⟨rfl, rfl, rfl, by decide +kernel, rfl, by decide +kernel, by decide +kernel⟩
abbrev s__law_run : Stmt := topS 35
theorem sc__law_run : FnScope Tab.N__law_run ["state", "table", "parties", "labels"] (defScope s__law_run) := ⟨rfl, rfl, rfl, by decide +kernel, rfl, by decide +kernel, by decide +kernel⟩
abbrev s__law_paper : Stmt := topS 37
theorem sc__law_paper : FnScope Tab.N__law_paper ["state", "table", "parties", "labels"] (defScope s__law_paper) := ⟨rfl, rfl, rfl, by decide +kernel, rfl, by decide +kernel, by decide +kernel⟩
abbrev s_next_state : Stmt := topS 2
theorem sc_next_state : FnScope Tab.N_next_state ["table", "state", "action"] (defScope s_next_state) := ⟨rfl, rfl, rfl, by decide +kernel, rfl, by decide +kernel, by decide +kernel⟩
abbrev s_walk : Stmt := topS 1
theorem sc_walk : FnScope Tab.N_walk ["table", "actions"] (defScope s_walk) := ⟨rfl, rfl, rfl, by decide +kernel, rfl, by decide +kernel, by decide +kernel⟩
abbrev s_takes_part : Stmt := topS 5
theorem sc_takes_part : FnScope Tab.N_takes_part ["party", "action"] (defScope s_takes_part) := ⟨rfl, rfl, rfl, by decide +kernel, rfl, by decide +kernel, by decide +kernel⟩
abbrev s_view : Stmt := topS 6
theorem sc_view : FnScope Tab.N_view ["actions", "party"] (defScope s_view) := ⟨rfl, rfl, rfl, by decide +kernel, rfl, by decide +kernel, by decide +kernel⟩
abbrev s__could_do : Stmt := topS 11
theorem sc__could_do : FnScope Tab.N__could_do ["table", "run", "action", "party", "other"] (defScope s__could_do) := ⟨rfl, rfl, rfl, by decide +kernel, rfl, by decide +kernel, by decide +kernel⟩
abbrev s__shows_unready : Stmt := topS 10
theorem sc__shows_unready : FnScope Tab.N__shows_unready ["table", "run", "action", "other"] (defScope s__shows_unready) := ⟨rfl, rfl, rfl, by decide +kernel, rfl, by decide +kernel, by decide +kernel⟩
abbrev s__shows_stray : Stmt := topS 9
theorem sc__shows_stray : FnScope Tab.N__shows_stray ["table", "run", "action", "first", "second"] (defScope s__shows_stray) := ⟨rfl, rfl, rfl, by decide +kernel, rfl, by decide +kernel, by decide +kernel⟩
abbrev s_senders_at : Stmt := topS 4
theorem sc_senders_at : FnScope Tab.N_senders_at ["table", "state"] (defScope s_senders_at) := ⟨rfl, rfl, rfl, by decide +kernel, rfl, by decide +kernel, by decide +kernel⟩
abbrev s__could_rest : Stmt := topS 13
theorem sc__could_rest : FnScope Tab.N__could_rest ["table", "run", "party", "other"] (defScope s__could_rest) := ⟨rfl, rfl, rfl, by decide +kernel, rfl, by decide +kernel, by decide +kernel⟩
abbrev s__shows_idle : Stmt := topS 12
theorem sc__shows_idle : FnScope Tab.N__shows_idle ["table", "run", "others"] (defScope s__shows_idle) := ⟨rfl, rfl, rfl, by decide +kernel, rfl, by decide +kernel, by decide +kernel⟩
abbrev s_judge : Stmt := topS 8
theorem sc_judge : FnScope Tab.N_judge ["table", "certificate"] (defScope s_judge) := ⟨rfl, rfl, rfl, by decide +kernel, rfl, by decide +kernel, by decide +kernel⟩
abbrev s__law_step : Stmt := topS 21
theorem sc__law_step : FnScope Tab.N__law_step ["table", "state", "action"] (defScope s__law_step) := ⟨rfl, rfl, rfl, by decide +kernel, rfl, by decide +kernel, by decide +kernel⟩
abbrev s__law_walk : Stmt := topS 22
theorem sc__law_walk : FnScope Tab.N__law_walk ["table", "actions"] (defScope s__law_walk) := ⟨rfl, rfl, rfl, by decide +kernel, rfl, by decide +kernel, by decide +kernel⟩
abbrev s__law_parties : Stmt := topS 26
theorem sc__law_parties : FnScope Tab.N__law_parties ["table"] (defScope s__law_parties) := ⟨rfl, rfl, rfl, by decide +kernel, rfl, by decide +kernel, by decide +kernel⟩
abbrev s__law_view : Stmt := topS 23
theorem sc__law_view : FnScope Tab.N__law_view ["actions", "party"] (defScope s__law_view) := ⟨rfl, rfl, rfl, by decide +kernel, rfl, by decide +kernel, by decide +kernel⟩
abbrev s__law_same_view : Stmt := topS 27
theorem sc__law_same_view : FnScope Tab.N__law_same_view ["one", "other", "party"] (defScope s__law_same_view) := ⟨rfl, rfl, rfl, by decide +kernel, rfl, by decide +kernel, by decide +kernel⟩
abbrev s__law_goes : Stmt := topS 28
theorem sc__law_goes : FnScope Tab.N__law_goes ["table", "run", "action"] (defScope s__law_goes) := ⟨rfl, rfl, rfl, by decide +kernel, rfl, by decide +kernel, by decide +kernel⟩
abbrev s__law_holds : Stmt := topS 29
theorem sc__law_holds : FnScope Tab.N__law_holds ["table", "paper"] (defScope s__law_holds) := ⟨rfl, rfl, rfl, by decide +kernel, rfl, by decide +kernel, by decide +kernel⟩
abbrev s_law : Stmt := topS 38
abbrev N_law : List Str := ["script", "state", "parties", "labels", "table", "k", "paper", "actual"]
theorem sc_law : FnScope N_law ["script"] (defScope s_law) := ⟨rfl, rfl, rfl, by decide +kernel, rfl, by decide +kernel, by decide +kernel⟩

def a_law (K : PySem.W.Frag) : AS :=
  (aSeq (aSet 1 (aCall Tab.F__law_state (fun _ _ => False) (aCons (aVar 0) aNil))) (aSeq (aSet 2 (aCall Tab.F__law_names (fun _ _ => False) (aCons (aVar 1) (aCons (aOp aAdd (aC (.d (.int 2))) (aCall Tab.F__law_draw (fun _ _ => False) (aCons (aVar 1) (aCons (aC (.d (.int 2))) aNil)))) (aCons (aLstD aNil) aNil))))) (aSeq (aSet 3 (aCall Tab.F__law_names (fun _ _ => False) (aCons (aVar 1) (aCons (aOp aAdd (aC (.d (.int 1))) (aCall Tab.F__law_draw (fun _ _ => False) (aCons (aVar 1) (aCons (aC (.d (.int 2))) aNil)))) (aCons (aLstD aNil) aNil))))) (aSeq (aSet 4 (aCall Tab.F__law_table (fun _ _ => False) (aCons (aVar 1) (aCons (aVar 2) (aCons (aVar 3) (aCons (aOp aAdd (aC (.d (.int 1))) (aCall Tab.F__law_draw (fun _ _ => False) (aCons (aVar 1) (aCons (aC (.d (.int 4))) aNil)))) aNil)))))) (aSeq (aFor (aRng1 (aCons (aC (.d (.int 3))) aNil)) (aName 5) (aSeq (aSet 6 (aCall Tab.F__law_paper (fun _ _ => False) (aCons (aVar 1) (aCons (aVar 4) (aCons (aVar 2) (aCons (aVar 3) aNil)))))) (aSeq (aSet 7 (aCall Tab.F_judge (fun _ _ => False) (aCons (aVar 4) (aCons (aVar 6) aNil)))) (aIfS (aOr (aNot (aTru (aCB aIsi (aCons (aVar 7) (aCons (aC (.r (.ty "bool"))) aNil))))) (aB (aOp aNe (aVar 7) (aCall Tab.F__law_holds (fun _ _ => False) (aCons (aVar 4) (aCons (aVar 6) aNil)))))) (aRet (aC (.d (.bool false)))) aNext)))) (aRet (aC (.d (.bool true)))))))))

section
variable {K : PySem.W.Frag}
theorem rd_law : ∀ as κ R E', F_law as κ R E' → a_law K (endsA K κ.length R) (startA N_law as) κ := by
  rintro as κ R E' ⟨ns, rfl, rfl, _, h⟩
  refine state_w fun s hs => ?_
  refine draw_w hs (by decide) (by decide) fun v s hs v0 v1 => ⟨(show 0 ≤ sizeLine by decide), ?_⟩
  refine nm_w (m := 2 + v) hs (by omega) (by omega) fun ps s hs hp hnd hpn => ?_
  refine draw_w hs (by decide) (by decide) fun w s hs w0 w1 => ⟨(show 0 ≤ sizeLine by decide), ?_⟩
  refine nm_w (m := 1 + w) hs (by omega) (by omega) fun ls s hs hl hnd2 hln => ?_
  refine draw_w hs (by decide) (by decide) fun x s hs x0 x1 => ?_
  obtain ⟨n, rfl⟩ := Int.eq_ofNat_of_zero_le x0
  have e1 : (1 : Int) + (n : Int) = ((1 + n : Nat) : Int) := by omega
  show callW F__law_table _ [.c 0, .d (.list (ps.map .str)), .d (.list (ls.map .str)), .d (.int (1 + (n : Int)))] _ _
  rw [e1]
  refine table_w (κr := []) hs (by omega) (by omega) (by omega) (by omega) hnd (by omega) (by omega) fun s rs bs hs ht => ?_
  have hT := okT_of ht hpn hln (by omega)
  have hlen : ∀ row ∈ rs, row.length ≤ 2 * (1 + n) + 1 := fun r hr => (ht.ok r hr).2.2
  have ok : okNs ps ls := ⟨by omega, by omega, hnd, hpn, by omega, by omega, fun z hz => name_strOk (hln z hz)⟩
  refine ⟨by decide, by decide, ?_⟩
  refine for_r (fun i δ κ => ∃ (s : Cell) (x5 x6 x7 : Option AV), δ = [some (.d (.list (ns.map .int))), some (.c 0), some (.d (.list (ps.map .str))), some (.d (.list (ls.map .str))), some (.d (tabD rs bs)), x5, x6, x7] ∧ κ = [s] ∧ isSt s) ⟨s, none, none, none, rfl, rfl, hs⟩ ?_ ?_
  · rintro δ κ ⟨s, x5, x6, x7, rfl, rfl, hs⟩ _
    exact endD h
  · rintro i δ κ hi ⟨s, x5, x6, x7, rfl, rfl, hs⟩ _
    refine paper_w (κr := []) ok hT (fun row hr => by have := hlen row hr; omega) hs fun p s hp hs => ?_
    refine judge_w hT (fun row hr => by have := hlen row hr; omega) hp ?_
    refine ⟨true, rfl, ?_⟩
    refine holds_w hT (fun row hr => by have := hlen row hr; omega) (T := ps) (by omega) (parts_of ht) hp ?_
    show bsel (not (decide (judgeT rs bs p = judgeT rs bs p))) _ _
    rw [decide_eq_true rfl]
    exact ⟨s, _, _, _, rfl, rfl, hs⟩
end
structure Txt (K : PySem.W.Frag) (mg : Str → Option Value) where
  m_all : mg "all" = none
  m_bool : mg "bool" = none
  m_int : mg "int" = none
  m_isinstance : mg "isinstance" = none
  m_len : mg "len" = none
  m_list : mg "list" = none
  m_range : mg "range" = none
  m_set : mg "set" = none
  m_sorted : mg "sorted" = none
  m_str : mg "str" = none
  m_tuple : mg "tuple" = none
  f__law_state : Addr
  fd__law_state : FuncData
  g__law_state : mg "_law_state" = some (.ref f__law_state)
  F__law_state : Fun K "_law_state" "_law_state" s__law_state f__law_state fd__law_state
  b__law_state : Binds K fd__law_state ["script"] []
  f__law_draw : Addr
  fd__law_draw : FuncData
  g__law_draw : mg "_law_draw" = some (.ref f__law_draw)
  F__law_draw : Fun K "_law_draw" "_law_draw" s__law_draw f__law_draw fd__law_draw
  b__law_draw : Binds K fd__law_draw ["state", "limit"] []
  f__law_name : Addr
  fd__law_name : FuncData
  g__law_name : mg "_law_name" = some (.ref f__law_name)
  F__law_name : Fun K "_law_name" "_law_name" s__law_name f__law_name fd__law_name
  b__law_name : Binds K fd__law_name ["state"] []
  f__law_names : Addr
  fd__law_names : FuncData
  g__law_names : mg "_law_names" = some (.ref f__law_names)
  F__law_names : Fun K "_law_names" "_law_names" s__law_names f__law_names fd__law_names
  b__law_names : Binds K fd__law_names ["state", "count", "taken"] []
  f__law_edge : Addr
  fd__law_edge : FuncData
  g__law_edge : mg "_law_edge" = some (.ref f__law_edge)
  F__law_edge : Fun K "_law_edge" "_law_edge" s__law_edge f__law_edge fd__law_edge
  b__law_edge : Binds K fd__law_edge ["state", "row", "parties", "labels", "goal"] []
  f__law_table : Addr
  fd__law_table : FuncData
  g__law_table : mg "_law_table" = some (.ref f__law_table)
  F__law_table : Fun K "_law_table" "_law_table" s__law_table f__law_table fd__law_table
  b__law_table : Binds K fd__law_table ["state", "parties", "labels", "size"] []
  f__law_action : Addr
  fd__law_action : FuncData
  g__law_action : mg "_law_action" = some (.ref f__law_action)
  F__law_action : Fun K "_law_action" "_law_action" s__law_action f__law_action fd__law_action
  b__law_action : Binds K fd__law_action ["state", "parties", "labels"] []
  f__law_run : Addr
  fd__law_run : FuncData
  g__law_run : mg "_law_run" = some (.ref f__law_run)
  F__law_run : Fun K "_law_run" "_law_run" s__law_run f__law_run fd__law_run
  b__law_run : Binds K fd__law_run ["state", "table", "parties", "labels"] []
  f__law_paper : Addr
  fd__law_paper : FuncData
  g__law_paper : mg "_law_paper" = some (.ref f__law_paper)
  F__law_paper : Fun K "_law_paper" "_law_paper" s__law_paper f__law_paper fd__law_paper
  b__law_paper : Binds K fd__law_paper ["state", "table", "parties", "labels"] []
  f_next_state : Addr
  fd_next_state : FuncData
  g_next_state : mg "next_state" = some (.ref f_next_state)
  F_next_state : Fun K "next_state" "next_state" s_next_state f_next_state fd_next_state
  b_next_state : Binds K fd_next_state ["table", "state", "action"] []
  f_walk : Addr
  fd_walk : FuncData
  g_walk : mg "walk" = some (.ref f_walk)
  F_walk : Fun K "walk" "walk" s_walk f_walk fd_walk
  b_walk : Binds K fd_walk ["table", "actions"] []
  f_takes_part : Addr
  fd_takes_part : FuncData
  g_takes_part : mg "takes_part" = some (.ref f_takes_part)
  F_takes_part : Fun K "takes_part" "takes_part" s_takes_part f_takes_part fd_takes_part
  b_takes_part : Binds K fd_takes_part ["party", "action"] []
  f_view : Addr
  fd_view : FuncData
  g_view : mg "view" = some (.ref f_view)
  F_view : Fun K "view" "view" s_view f_view fd_view
  b_view : Binds K fd_view ["actions", "party"] []
  f__could_do : Addr
  fd__could_do : FuncData
  g__could_do : mg "_could_do" = some (.ref f__could_do)
  F__could_do : Fun K "_could_do" "_could_do" s__could_do f__could_do fd__could_do
  b__could_do : Binds K fd__could_do ["table", "run", "action", "party", "other"] []
  f__shows_unready : Addr
  fd__shows_unready : FuncData
  g__shows_unready : mg "_shows_unready" = some (.ref f__shows_unready)
  F__shows_unready : Fun K "_shows_unready" "_shows_unready" s__shows_unready f__shows_unready fd__shows_unready
  b__shows_unready : Binds K fd__shows_unready ["table", "run", "action", "other"] []
  f__shows_stray : Addr
  fd__shows_stray : FuncData
  g__shows_stray : mg "_shows_stray" = some (.ref f__shows_stray)
  F__shows_stray : Fun K "_shows_stray" "_shows_stray" s__shows_stray f__shows_stray fd__shows_stray
  b__shows_stray : Binds K fd__shows_stray ["table", "run", "action", "first", "second"] []
  f_senders_at : Addr
  fd_senders_at : FuncData
  g_senders_at : mg "senders_at" = some (.ref f_senders_at)
  F_senders_at : Fun K "senders_at" "senders_at" s_senders_at f_senders_at fd_senders_at
  b_senders_at : Binds K fd_senders_at ["table", "state"] []
  f__could_rest : Addr
  fd__could_rest : FuncData
  g__could_rest : mg "_could_rest" = some (.ref f__could_rest)
  F__could_rest : Fun K "_could_rest" "_could_rest" s__could_rest f__could_rest fd__could_rest
  b__could_rest : Binds K fd__could_rest ["table", "run", "party", "other"] []
  f__shows_idle : Addr
  fd__shows_idle : FuncData
  g__shows_idle : mg "_shows_idle" = some (.ref f__shows_idle)
  F__shows_idle : Fun K "_shows_idle" "_shows_idle" s__shows_idle f__shows_idle fd__shows_idle
  b__shows_idle : Binds K fd__shows_idle ["table", "run", "others"] []
  f_judge : Addr
  fd_judge : FuncData
  g_judge : mg "judge" = some (.ref f_judge)
  F_judge : Fun K "judge" "judge" s_judge f_judge fd_judge
  b_judge : Binds K fd_judge ["table", "certificate"] []
  f__law_step : Addr
  fd__law_step : FuncData
  g__law_step : mg "_law_step" = some (.ref f__law_step)
  F__law_step : Fun K "_law_step" "_law_step" s__law_step f__law_step fd__law_step
  b__law_step : Binds K fd__law_step ["table", "state", "action"] []
  f__law_walk : Addr
  fd__law_walk : FuncData
  g__law_walk : mg "_law_walk" = some (.ref f__law_walk)
  F__law_walk : Fun K "_law_walk" "_law_walk" s__law_walk f__law_walk fd__law_walk
  b__law_walk : Binds K fd__law_walk ["table", "actions"] []
  f__law_parties : Addr
  fd__law_parties : FuncData
  g__law_parties : mg "_law_parties" = some (.ref f__law_parties)
  F__law_parties : Fun K "_law_parties" "_law_parties" s__law_parties f__law_parties fd__law_parties
  b__law_parties : Binds K fd__law_parties ["table"] []
  f__law_view : Addr
  fd__law_view : FuncData
  g__law_view : mg "_law_view" = some (.ref f__law_view)
  F__law_view : Fun K "_law_view" "_law_view" s__law_view f__law_view fd__law_view
  b__law_view : Binds K fd__law_view ["actions", "party"] []
  f__law_same_view : Addr
  fd__law_same_view : FuncData
  g__law_same_view : mg "_law_same_view" = some (.ref f__law_same_view)
  F__law_same_view : Fun K "_law_same_view" "_law_same_view" s__law_same_view f__law_same_view fd__law_same_view
  b__law_same_view : Binds K fd__law_same_view ["one", "other", "party"] []
  f__law_goes : Addr
  fd__law_goes : FuncData
  g__law_goes : mg "_law_goes" = some (.ref f__law_goes)
  F__law_goes : Fun K "_law_goes" "_law_goes" s__law_goes f__law_goes fd__law_goes
  b__law_goes : Binds K fd__law_goes ["table", "run", "action"] []
  f__law_holds : Addr
  fd__law_holds : FuncData
  g__law_holds : mg "_law_holds" = some (.ref f__law_holds)
  F__law_holds : Fun K "_law_holds" "_law_holds" s__law_holds f__law_holds fd__law_holds
  b__law_holds : Binds K fd__law_holds ["table", "paper"] []
  f_law : Addr
  fd_law : FuncData
  g_law : mg "law" = some (.ref f_law)
  F_law : Fun K "law" "law" s_law f_law fd_law
  b_law : Binds K fd_law ["script"] []
section
variable {P : Program} {w : World} {K : PySem.W.Frag} {mg : Str → Option Value} {base : Heap}
theorem ok__law_state (T : Txt K mg)  : FnOk P w K mg base CX0 1 T.f__law_state T.fd__law_state ["script"] (spA K Tab.F__law_state) :=
  fn_ok T.F__law_state sc__law_state Tab.len__law_state fun cdv A outer s H E hr => ⟨_, Tab.a__law_state K, (sa_one (sa_ret (ea_lst (aa_cons (ea_ct (ca_list false) (by rfl) T.m_list (by decide +kernel) (aa_cons (av 0) aa_nil)) (aa_cons ea_int (aa_cons ea_int (aa_cons ea_int (aa_cons ea_bl (aa_cons ea_int aa_nil))))))))), Tab.rd__law_state⟩
theorem ok__law_draw (T : Txt K mg)  : FnOk P w K mg base CX0 1 T.f__law_draw T.fd__law_draw ["state", "limit"] (spA K Tab.F__law_draw) :=
  fn_ok T.F__law_draw sc__law_draw Tab.len__law_draw fun cdv A outer s H E hr => ⟨_, Tab.a__law_draw K, (sa_cut (sa_if (ta_cmp (oa_eq hr) (ea_ix (av 0) ea_int) ea_int) (sa_cons (sa_if (ta_cmp oa_ge (ea_ix (av 0) ea_int) (ea_cb ca_len (by rfl) T.m_len (by decide +kernel) (aa_cons (ea_ix (av 0) ea_int) aa_nil))) (sa_one (sa_ret ea_int)) sa_nil) (sa_cons (sa_set (i := 2) sc__law_draw.nd rfl (Or.inl rfl) (ea_ix (ea_ix (av 0) ea_int) (ea_ix (av 0) ea_int))) (sa_cut (sa_if (ta_cmp oa_lt (av 2) ea_int) (sa_one (sa_set (i := 2) sc__law_draw.nd rfl (Or.inl rfl) (ea_op oa_sub (ea_neg ea_int) (av 2)))) sa_nil) (sa_cons (sa_asg (ea_op oa_add (ea_ix (av 0) ea_int) ea_int) (ga_sub (av 0) ea_int sta_list)) (sa_cons (sa_asg (av 2) (ga_sub (av 0) ea_int sta_list)) (sa_cons (sa_asg (ea_cmp oa_ge (av 2) (ea_op oa_pow ea_int ea_int)) (ga_sub (av 0) ea_int sta_list)) (sa_cons (sa_asg ea_int (ga_sub (av 0) ea_int sta_list)) (sa_one (sa_if (ta_tru (ea_ix (av 0) ea_int)) (sa_one (sa_asg ea_int (ga_sub (av 0) ea_int sta_list))) sa_nil))))))))) sa_nil) (sa_cons (sa_asg (ea_op oa_sub (ea_ix (av 0) ea_int) ea_int) (ga_sub (av 0) ea_int sta_list)) (sa_cons (sa_if (ta_tru (ea_ix (av 0) ea_int)) (sa_cons (sa_set (i := 3) sc__law_draw.nd rfl (Or.inl rfl) (ea_op oa_mod (ea_ct ca_int (by rfl) T.m_int (by decide +kernel) (aa_cons (ea_ix (av 0) ea_int) aa_nil)) (av 1))) (sa_cons (sa_asg (ea_op oa_div (ea_ix (av 0) ea_int) (av 1)) (ga_sub (av 0) ea_int sta_list)) (sa_cut (sa_if (ta_cmp (oa_eq hr) (ea_ix (av 0) ea_int) ea_int) (sa_one (sa_asg ea_int (ga_sub (av 0) ea_int sta_list))) sa_nil) (sa_one (sa_ret (av 3)))))) sa_nil) (sa_cons (sa_set (i := 4) sc__law_draw.nd rfl (Or.inl rfl) (ea_op oa_mod (ea_ct ca_int (by rfl) T.m_int (by decide +kernel) (aa_cons (ea_op oa_add (ea_op oa_add (ea_op oa_mul (ea_ix (av 0) ea_int) ea_int) (ea_op oa_mul (ea_ix (av 0) ea_int) ea_int)) ea_int) aa_nil)) ea_int)) (sa_cons (sa_set (i := 4) sc__law_draw.nd rfl (Or.inl rfl) (ea_op oa_mod (ea_ct ca_int (by rfl) T.m_int (by decide +kernel) (aa_cons (ea_op oa_add (ea_op oa_add (ea_op oa_mul (av 4) (av 4)) (ea_op oa_mul (ea_ix (av 0) ea_int) ea_int)) (ea_ix (av 0) ea_int)) aa_nil)) ea_int)) (sa_one (sa_ret (ea_op oa_mod (ea_ct ca_int (by rfl) T.m_int (by decide +kernel) (aa_cons (av 4) aa_nil)) (av 1))))))))), Tab.rd__law_draw⟩
theorem ok__law_name (T : Txt K mg) (G__law_draw : FnOk P w K mg base CX0 1 T.f__law_draw T.fd__law_draw ["state", "limit"] (spA K Tab.F__law_draw)) : FnOk P w K mg base CX0 2 T.f__law_name T.fd__law_name ["state"] (spA K Tab.F__law_name) :=
  fn_ok T.F__law_name sc__law_name Tab.len__law_name fun cdv A outer s H E hr => ⟨_, Tab.a__law_name K, (sa_cons (sa_set (i := 1) sc__law_name.nd rfl (Or.inl rfl) ea_str) (sa_cons (sa_set (i := 2) sc__law_name.nd rfl (Or.inl rfl) (ea_op oa_add (av 1) ea_str)) (sa_cons (sa_set (i := 3) sc__law_name.nd rfl (Or.inl rfl) (ea_call (G__law_draw.mono (k := 1) (by decide)) hr (by rfl) T.g__law_draw T.F__law_draw.kp T.b__law_draw (aa_cons (av 0) (aa_cons ea_int aa_nil)))) (sa_cons (sa_set (i := 4) sc__law_name.nd rfl (Or.inl rfl) (ea_ix (av 1) (ea_op oa_mod (ea_ct ca_int (by rfl) T.m_int (by decide +kernel) (aa_cons (ea_op oa_div (av 3) ea_int) aa_nil)) ea_int))) (sa_cons (sa_set (i := 5) sc__law_name.nd rfl (Or.inl rfl) (ea_op oa_add (ea_op oa_add (ea_ix (av 2) (ea_op oa_mod (ea_ct ca_int (by rfl) T.m_int (by decide +kernel) (aa_cons (ea_op oa_div (av 3) ea_int) aa_nil)) ea_int)) (ea_ix (av 2) (ea_op oa_mod (ea_ct ca_int (by rfl) T.m_int (by decide +kernel) (aa_cons (ea_op oa_div (av 3) ea_int) aa_nil)) ea_int))) (ea_ix (av 2) (ea_op oa_mod (ea_ct ca_int (by rfl) T.m_int (by decide +kernel) (aa_cons (av 3) aa_nil)) ea_int)))) (sa_cut (sa_if (ta_cmp (oa_eq hr) (ea_call (G__law_draw.mono (k := 1) (by decide)) hr (by rfl) T.g__law_draw T.F__law_draw.kp T.b__law_draw (aa_cons (av 0) (aa_cons ea_int aa_nil))) ea_int) (sa_one (sa_set (i := 4) sc__law_name.nd rfl (Or.inl rfl) (ea_slice (ea_op oa_add (av 4) (ea_op oa_mulT (av 5) ea_int)) oa_none (oa_some (ea_op oa_add ea_int (ea_call (G__law_draw.mono (k := 1) (by decide)) hr (by rfl) T.g__law_draw T.F__law_draw.kp T.b__law_draw (aa_cons (av 0) (aa_cons ea_int aa_nil)))))))) (sa_one (sa_set (i := 4) sc__law_name.nd rfl (Or.inl rfl) (ea_op oa_add (av 4) (ea_slice (av 5) oa_none (oa_some (ea_op oa_mod (ea_ct ca_int (by rfl) T.m_int (by decide +kernel) (aa_cons (av 3) aa_nil)) ea_int))))))) (sa_cons (sa_if (ta_cmp oa_in (av 4) (ea_lstD (aa_cons ea_str (aa_cons ea_str (aa_cons ea_str (aa_cons ea_str (aa_cons ea_str (aa_cons ea_str aa_nil)))))))) (sa_one (sa_ret (ea_op oa_add (av 4) ea_str))) sa_nil) (sa_one (sa_ret (av 4)))))))))), Tab.rd__law_name⟩
theorem ok__law_names (T : Txt K mg) (G__law_name : FnOk P w K mg base CX0 2 T.f__law_name T.fd__law_name ["state"] (spA K Tab.F__law_name)) : FnOk P w K mg base CX0 3 T.f__law_names T.fd__law_names ["state", "count", "taken"] (spA K Tab.F__law_names) :=
  fn_ok T.F__law_names sc__law_names Tab.len__law_names fun cdv A outer s H E hr => ⟨_, Tab.a__law_names K, (sa_cons (sa_set (i := 3) sc__law_names.nd rfl (Or.inl rfl) (ea_lst aa_nil)) (sa_cons (sa_for PassesOwn.never rfl (ia_rng1 (by rfl) T.m_range (aa_cons (av 1) aa_nil)) (ga_name (i := 4) sc__law_names.nd rfl (Or.inl rfl)) (sa_cons (sa_set (i := 5) sc__law_names.nd rfl (Or.inl rfl) (ea_call (G__law_name.mono (k := 2) (by decide)) hr (by rfl) T.g__law_name T.F__law_name.kp T.b__law_name (aa_cons (av 0) aa_nil))) (sa_cons (sa_for PassesOwn.never rfl (ia_rng1 (by rfl) T.m_range (aa_cons ea_int aa_nil)) (ga_name (i := 6) sc__law_names.nd rfl (Or.inl rfl)) (sa_one (sa_if (PWa.pt (wa_or (ta_cmp oa_in (av 5) (av 3)) (wa_or1 (ta_cmp oa_in (av 5) (av 2))))) (sa_one (sa_set (i := 5) sc__law_names.nd rfl (Or.inl rfl) (ea_op oa_add (ea_op oa_add (ea_slice (av 5) oa_none (oa_some ea_int)) ea_str) (ea_ct ca_str (by rfl) T.m_str (by decide +kernel) (aa_cons (av 6) aa_nil))))) sa_nil))) (sa_one (sa_drop (ea_bm ma_append PySem.F.plainAttrs_list PySem.F.slot_list_append PySem.F.type_list_append (av 3) (aa_cons (av 5) aa_nil))))))) (sa_one (sa_ret (av 3))))), Tab.rd__law_names⟩
theorem ok__law_edge (T : Txt K mg) (G__law_draw : FnOk P w K mg base CX0 1 T.f__law_draw T.fd__law_draw ["state", "limit"] (spA K Tab.F__law_draw)) : FnOk P w K mg base CX0 2 T.f__law_edge T.fd__law_edge ["state", "row", "parties", "labels", "goal"] (spA K Tab.F__law_edge) :=
  fn_ok T.F__law_edge sc__law_edge Tab.len__law_edge fun cdv A outer s H E hr => ⟨_, Tab.a__law_edge K, (sa_cons (sa_set (i := 5) sc__law_edge.nd rfl (Or.inl rfl) (ea_call (G__law_draw.mono (k := 1) (by decide)) hr (by rfl) T.g__law_draw T.F__law_draw.kp T.b__law_draw (aa_cons (av 0) (aa_cons (ea_cb ca_len (by rfl) T.m_len (by decide +kernel) (aa_cons (av 2) aa_nil)) aa_nil)))) (sa_cons (sa_set (i := 6) sc__law_edge.nd rfl (Or.inl rfl) (ea_op oa_mod (ea_ct ca_int (by rfl) T.m_int (by decide +kernel) (aa_cons (ea_op oa_add (ea_op oa_add (av 5) ea_int) (ea_call (G__law_draw.mono (k := 1) (by decide)) hr (by rfl) T.g__law_draw T.F__law_draw.kp T.b__law_draw (aa_cons (av 0) (aa_cons (ea_op oa_sub (ea_cb ca_len (by rfl) T.m_len (by decide +kernel) (aa_cons (av 2) aa_nil)) ea_int) aa_nil)))) aa_nil)) (ea_cb ca_len (by rfl) T.m_len (by decide +kernel) (aa_cons (av 2) aa_nil)))) (sa_cons (sa_set (i := 7) sc__law_edge.nd rfl (Or.inl rfl) (ea_tupC (aa_cons (ea_ix (av 2) (av 5)) (aa_cons (ea_ix (av 2) (av 6)) (aa_cons (ea_ix (av 3) (ea_call (G__law_draw.mono (k := 1) (by decide)) hr (by rfl) T.g__law_draw T.F__law_draw.kp T.b__law_draw (aa_cons (av 0) (aa_cons (ea_cb ca_len (by rfl) T.m_len (by decide +kernel) (aa_cons (av 3) aa_nil)) aa_nil)))) aa_nil))))) (sa_cons (sa_for PassesOwn.never rfl (ia_any (av 3)) (ga_name (i := 8) sc__law_edge.nd rfl (Or.inl rfl)) (sa_one (sa_if (ta_tin hr (av 7) (av 1)) (sa_one (sa_set (i := 7) sc__law_edge.nd rfl (Or.inl rfl) (ea_tupC (aa_cons (ea_ix (av 7) ea_int) (aa_cons (ea_ix (av 7) ea_int) (aa_cons (av 8) aa_nil)))))) sa_nil))) (sa_one (sa_if (ta_tnotin hr (av 7) (av 1)) (sa_one (sa_tput hr (av 1) (av 7) (av 4))) sa_nil)))))), Tab.rd__law_edge⟩
theorem ok__law_table (T : Txt K mg) (G__law_edge : FnOk P w K mg base CX0 2 T.f__law_edge T.fd__law_edge ["state", "row", "parties", "labels", "goal"] (spA K Tab.F__law_edge)) (G__law_draw : FnOk P w K mg base CX0 1 T.f__law_draw T.fd__law_draw ["state", "limit"] (spA K Tab.F__law_draw)) : FnOk P w K mg base CX0 3 T.f__law_table T.fd__law_table ["state", "parties", "labels", "size"] (spA K Tab.F__law_table) :=
  fn_ok T.F__law_table sc__law_table Tab.len__law_table fun cdv A outer s H E hr => ⟨_, Tab.a__law_table K, (sa_cons (sa_setLcC (i := 4) (own := [("k", 5)]) rfl sc__law_table.nd rfl rfl (sw_true rfl rfl rfl (by decide +kernel)) (ia_rng1 (by rfl) T.m_range (aa_cons (av 3) aa_nil)) (blkOk_by (own := [("k", 5)]) (N := Tab.N__law_table) (sc := defScope s__law_table) (by decide +kernel)) (fun _ _ _ _ _ => (pg_name (i := 5) sc__law_table.nd rfl (Or.inl rfl))) (sgw_name (by decide)) (fun _ _ _ _ _ => tsa_nil) (fun _ _ _ _ _ => ea_tnew)) (sa_cons (sa_for PassesOwn.never rfl (ia_rng1 (by rfl) T.m_range (aa_cons (ea_op oa_sub (av 3) ea_int) aa_nil)) (ga_name (i := 5) sc__law_table.nd rfl (Or.inl rfl)) (sa_one (sa_drop (ea_call (G__law_edge.mono (k := 2) (by decide)) hr (by rfl) T.g__law_edge T.F__law_edge.kp T.b__law_edge (aa_cons (av 0) (aa_cons (ea_ix (av 4) (av 5)) (aa_cons (av 1) (aa_cons (av 2) (aa_cons (ea_op oa_add (av 5) ea_int) aa_nil))))))))) (sa_cons (sa_for PassesOwn.never rfl (ia_rng1 (by rfl) T.m_range (aa_cons (ea_call (G__law_draw.mono (k := 2) (by decide)) hr (by rfl) T.g__law_draw T.F__law_draw.kp T.b__law_draw (aa_cons (av 0) (aa_cons (ea_op oa_add (ea_op oa_mul ea_int (av 3)) ea_int) aa_nil))) aa_nil)) (ga_name (i := 5) sc__law_table.nd rfl (Or.inl rfl)) (sa_one (sa_drop (ea_call (G__law_edge.mono (k := 2) (by decide)) hr (by rfl) T.g__law_edge T.F__law_edge.kp T.b__law_edge (aa_cons (av 0) (aa_cons (ea_ix (av 4) (ea_call (G__law_draw.mono (k := 2) (by decide)) hr (by rfl) T.g__law_draw T.F__law_draw.kp T.b__law_draw (aa_cons (av 0) (aa_cons (av 3) aa_nil)))) (aa_cons (av 1) (aa_cons (av 2) (aa_cons (ea_call (G__law_draw.mono (k := 2) (by decide)) hr (by rfl) T.g__law_draw T.F__law_draw.kp T.b__law_draw (aa_cons (av 0) (aa_cons (av 3) aa_nil))) aa_nil))))))))) (sa_cons (sa_setLcL (i := 6) (own := [("k", 5)]) rfl sc__law_table.nd rfl rfl (sw_true rfl rfl rfl (by decide +kernel)) (ia_rng1 (by rfl) T.m_range (aa_cons (av 3) aa_nil)) (blkOk_by (own := [("k", 5)]) (N := Tab.N__law_table) (sc := defScope s__law_table) (by decide +kernel)) (fun _ _ _ _ _ => (pg_name (i := 5) sc__law_table.nd rfl (Or.inl rfl))) (sgw_name (by decide)) (fun _ _ _ _ _ => tsa_nil) (fun _ _ _ _ _ => (ea_cmp (oa_eq hr) (ea_call (G__law_draw.mono (k := 2) (by decide)) hr (by rfl) T.g__law_draw T.F__law_draw.kp T.b__law_draw (aa_cons (av 0) (aa_cons ea_int aa_nil))) ea_int))) (sa_cons (sa_asg ea_bl (ga_sub (av 6) (ea_op oa_sub (av 3) ea_int) sta_list)) (sa_one (sa_ret (ea_tup (aa_cons ea_str (aa_cons (ea_ct ca_tuple (by rfl) T.m_tuple (by decide +kernel) (aa_cons (ea_lc (own := [("row", 7)]) rfl sc__law_table.nd (ia_lst (av 4)) (blkOk_by (own := [("row", 7)]) (N := Tab.N__law_table) (sc := defScope s__law_table) (by decide +kernel)) (fun _ _ _ _ _ => (pg_name (i := 7) sc__law_table.nd rfl (Or.inr rfl))) (sgw_name (by decide)) (fun _ _ _ _ _ => tsa_nil) (fun _ _ _ _ _ => (ea_ct ca_tuple (by rfl) T.m_tuple (by decide +kernel) (aa_cons (ea_lc (own := [("x", 8)]) rfl sc__law_table.nd (ia_any (ea_cb (ca_sort rfl) (by rfl) T.m_sorted (by decide +kernel) (aa_cons (av 7) aa_nil))) (blkOk_by (own := [("x", 8)]) (N := Tab.N__law_table) (sc := { kind := ScopeKind.function, names := [(".0", NameKind.local), ("row", NameKind.cell), ("tuple", NameKind.globalImplicit), ("sorted", NameKind.globalImplicit)], isGenerator := false, isCoroutine := false }) (by decide +kernel)) (fun _ _ _ _ _ => (pg_name (i := 8) sc__law_table.nd rfl (Or.inl rfl))) (sgw_name (by decide)) (fun _ _ _ _ _ => tsa_nil) (fun _ _ _ _ _ => (ea_tup (aa_cons (av 8) (aa_cons (ea_tget hr (av 7) (av 8)) aa_nil))))) aa_nil)))) aa_nil)) (aa_cons (ea_ct ca_tuple (by rfl) T.m_tuple (by decide +kernel) (aa_cons (av 6) aa_nil)) aa_nil))))))))))), Tab.rd__law_table⟩
theorem ok__law_action (T : Txt K mg) (G__law_draw : FnOk P w K mg base CX0 1 T.f__law_draw T.fd__law_draw ["state", "limit"] (spA K Tab.F__law_draw)) : FnOk P w K mg base CX0 2 T.f__law_action T.fd__law_action ["state", "parties", "labels"] (spA K Tab.F__law_action) :=
  fn_ok T.F__law_action sc__law_action Tab.len__law_action fun cdv A outer s H E hr => ⟨_, Tab.a__law_action K, (sa_cons (sa_set (i := 3) sc__law_action.nd rfl (Or.inl rfl) (ea_call (G__law_draw.mono (k := 1) (by decide)) hr (by rfl) T.g__law_draw T.F__law_draw.kp T.b__law_draw (aa_cons (av 0) (aa_cons (ea_cb ca_len (by rfl) T.m_len (by decide +kernel) (aa_cons (av 1) aa_nil)) aa_nil)))) (sa_cons (sa_set (i := 4) sc__law_action.nd rfl (Or.inl rfl) (ea_op oa_mod (ea_ct ca_int (by rfl) T.m_int (by decide +kernel) (aa_cons (ea_op oa_add (ea_op oa_add (av 3) ea_int) (ea_call (G__law_draw.mono (k := 1) (by decide)) hr (by rfl) T.g__law_draw T.F__law_draw.kp T.b__law_draw (aa_cons (av 0) (aa_cons (ea_op oa_sub (ea_cb ca_len (by rfl) T.m_len (by decide +kernel) (aa_cons (av 1) aa_nil)) ea_int) aa_nil)))) aa_nil)) (ea_cb ca_len (by rfl) T.m_len (by decide +kernel) (aa_cons (av 1) aa_nil)))) (sa_one (sa_ret (ea_tup (aa_cons (ea_ix (av 1) (av 3)) (aa_cons (ea_ix (av 1) (av 4)) (aa_cons (ea_ix (av 2) (ea_call (G__law_draw.mono (k := 1) (by decide)) hr (by rfl) T.g__law_draw T.F__law_draw.kp T.b__law_draw (aa_cons (av 0) (aa_cons (ea_cb ca_len (by rfl) T.m_len (by decide +kernel) (aa_cons (av 2) aa_nil)) aa_nil)))) aa_nil)))))))), Tab.rd__law_action⟩
theorem ok__law_run (T : Txt K mg) (G__law_draw : FnOk P w K mg base CX0 1 T.f__law_draw T.fd__law_draw ["state", "limit"] (spA K Tab.F__law_draw)) (G__law_action : FnOk P w K mg base CX0 2 T.f__law_action T.fd__law_action ["state", "parties", "labels"] (spA K Tab.F__law_action)) : FnOk P w K mg base CX0 3 T.f__law_run T.fd__law_run ["state", "table", "parties", "labels"] (spA K Tab.F__law_run) :=
  fn_ok T.F__law_run sc__law_run Tab.len__law_run fun cdv A outer s H E hr => ⟨_, Tab.a__law_run K, (sa_cons (sa_set (i := 4) sc__law_run.nd rfl (Or.inl rfl) (ea_lst aa_nil)) (sa_cons (sa_set (i := 5) sc__law_run.nd rfl (Or.inl rfl) ea_int) (sa_cons (sa_for PassesOwn.never rfl (ia_rng1 (by rfl) T.m_range (aa_cons (ea_call (G__law_draw.mono (k := 2) (by decide)) hr (by rfl) T.g__law_draw T.F__law_draw.kp T.b__law_draw (aa_cons (av 0) (aa_cons ea_int aa_nil))) aa_nil)) (ga_name (i := 6) sc__law_run.nd rfl (Or.inl rfl)) (sa_one (sa_if (PWa.pt (wa_and (ta_tru (ea_ix (ea_ix (av 1) ea_int) (av 5))) (wa_and1 (PWa.pt (wa_or (ta_cmp oa_gt (ea_call (G__law_draw.mono (k := 2) (by decide)) hr (by rfl) T.g__law_draw T.F__law_draw.kp T.b__law_draw (aa_cons (av 0) (aa_cons ea_int aa_nil))) ea_int) (wa_or1 (ta_not (ta_tru (ea_ix (ea_ix (av 1) ea_int) (av 5)))))))))) (sa_cons (sa_asg (ea_ix (ea_ix (ea_ix (av 1) ea_int) (av 5)) (ea_call (G__law_draw.mono (k := 2) (by decide)) hr (by rfl) T.g__law_draw T.F__law_draw.kp T.b__law_draw (aa_cons (av 0) (aa_cons (ea_cb ca_len (by rfl) T.m_len (by decide +kernel) (aa_cons (ea_ix (ea_ix (av 1) ea_int) (av 5)) aa_nil)) aa_nil)))) (ga_tup rfl (gsa_cons (ga_name (i := 7) sc__law_run.nd rfl (Or.inl rfl)) (gsa_cons (ga_name (i := 5) sc__law_run.nd rfl (Or.inl rfl)) gsa_nil)))) (sa_one (sa_drop (ea_bm ma_append PySem.F.plainAttrs_list PySem.F.slot_list_append PySem.F.type_list_append (av 4) (aa_cons (av 7) aa_nil))))) sa_nil))) (sa_gh (sa_cons (sa_set (i := 8) sc__law_run.nd rfl (Or.inl rfl) (ea_call (G__law_draw.mono (k := 2) (by decide)) hr (by rfl) T.g__law_draw T.F__law_draw.kp T.b__law_draw (aa_cons (av 0) (aa_cons ea_int aa_nil)))) (sa_cons (sa_set (i := 9) sc__law_run.nd rfl (Or.inl rfl) (ea_call (G__law_draw.mono (k := 2) (by decide)) hr (by rfl) T.g__law_draw T.F__law_draw.kp T.b__law_draw (aa_cons (av 0) (aa_cons ea_int aa_nil)))) (sa_cut (sa_if (ta_cmp (oa_eq hr) (av 9) ea_int) (sa_one (sa_set (i := 4) sc__law_run.nd rfl (Or.inl rfl) (ea_op (oa_cat false) (ea_slice (av 4) oa_none (oa_some (av 8))) (ea_slice (av 4) (oa_some (ea_op oa_add (av 8) ea_int)) oa_none)))) sa_nil) (sa_cut (sa_if (ta_cmp (oa_eq hr) (av 9) ea_int) (sa_one (sa_set (i := 4) sc__law_run.nd rfl (Or.inl rfl) (ea_op (oa_cat false) (ea_op (oa_cat false) (ea_slice (av 4) oa_none (oa_some (av 8))) (ea_lstD (aa_cons (ea_call (G__law_action.mono (k := 2) (by decide)) hr (by rfl) T.g__law_action T.F__law_action.kp T.b__law_action (aa_cons (av 0) (aa_cons (av 2) (aa_cons (av 3) aa_nil)))) aa_nil))) (ea_slice (av 4) (oa_some (av 8)) oa_none)))) sa_nil) (sa_one (sa_ret (av 4))))))))))), Tab.rd__law_run⟩
theorem ok__law_paper (T : Txt K mg) (G__law_draw : FnOk P w K mg base CX0 1 T.f__law_draw T.fd__law_draw ["state", "limit"] (spA K Tab.F__law_draw)) (G__law_run : FnOk P w K mg base CX0 3 T.f__law_run T.fd__law_run ["state", "table", "parties", "labels"] (spA K Tab.F__law_run)) (G__law_action : FnOk P w K mg base CX0 2 T.f__law_action T.fd__law_action ["state", "parties", "labels"] (spA K Tab.F__law_action)) : FnOk P w K mg base CX0 4 T.f__law_paper T.fd__law_paper ["state", "table", "parties", "labels"] (spA K Tab.F__law_paper) :=
  fn_ok T.F__law_paper sc__law_paper Tab.len__law_paper fun cdv A outer s H E hr => ⟨_, Tab.a__law_paper K, (sa_cons (sa_set (i := 4) sc__law_paper.nd rfl (Or.inl rfl) (ea_call (G__law_draw.mono (k := 3) (by decide)) hr (by rfl) T.g__law_draw T.F__law_draw.kp T.b__law_draw (aa_cons (av 0) (aa_cons ea_int aa_nil)))) (sa_cons (sa_setLc (i := 5) (own := [("k", 8)]) rfl sc__law_paper.nd rfl rfl (sw_true rfl rfl rfl (by decide +kernel)) (ia_rng1 (by rfl) T.m_range (aa_cons ea_int aa_nil)) (blkOk_by (own := [("k", 8)]) (N := Tab.N__law_paper) (sc := defScope s__law_paper) (by decide +kernel)) (fun _ _ _ _ _ => (pg_name (i := 8) sc__law_paper.nd rfl (Or.inl rfl))) (sgw_name (by decide)) (fun _ _ _ _ _ => tsa_nil) (fun _ _ _ _ _ => (ea_call (G__law_run.mono (k := 3) (by decide)) hr (by rfl) T.g__law_run T.F__law_run.kp T.b__law_run (aa_cons (av 0) (aa_cons (av 1) (aa_cons (av 2) (aa_cons (av 3) aa_nil))))))) (sa_cons (sa_if (ta_cmp (oa_eq hr) (av 4) ea_int) (sa_one (sa_ret (ea_tup (aa_cons ea_str (aa_cons (ea_ix (av 5) ea_int) (aa_cons (ea_call (G__law_action.mono (k := 3) (by decide)) hr (by rfl) T.g__law_action T.F__law_action.kp T.b__law_action (aa_cons (av 0) (aa_cons (av 2) (aa_cons (av 3) aa_nil)))) (aa_cons (ea_ix (av 5) ea_int) (aa_cons (ea_ix (av 5) ea_int) aa_nil)))))))) sa_nil) (sa_cons (sa_if (ta_cmp (oa_eq hr) (av 4) ea_int) (sa_one (sa_ret (ea_tup (aa_cons ea_str (aa_cons (ea_ix (av 5) ea_int) (aa_cons (ea_call (G__law_action.mono (k := 3) (by decide)) hr (by rfl) T.g__law_action T.F__law_action.kp T.b__law_action (aa_cons (av 0) (aa_cons (av 2) (aa_cons (av 3) aa_nil)))) (aa_cons (ea_ix (av 5) ea_int) aa_nil))))))) sa_nil) (sa_cons (sa_set (i := 6) sc__law_paper.nd rfl (Or.inl rfl) (ea_lst aa_nil)) (sa_cons (sa_for PassesOwn.never rfl (ia_any (ea_cb (ca_sort rfl) (by rfl) T.m_sorted (by decide +kernel) (aa_cons (av 2) aa_nil))) (ga_name (i := 7) sc__law_paper.nd rfl (Or.inl rfl)) (sa_one (sa_if (ta_cmp (oa_eq hr) (ea_call (G__law_draw.mono (k := 3) (by decide)) hr (by rfl) T.g__law_draw T.F__law_draw.kp T.b__law_draw (aa_cons (av 0) (aa_cons ea_int aa_nil))) ea_int) (sa_one (sa_drop (ea_bm ma_append PySem.F.plainAttrs_list PySem.F.slot_list_append PySem.F.type_list_append (av 6) (aa_cons (ea_tup (aa_cons (av 7) (aa_cons (ea_call (G__law_run.mono (k := 3) (by decide)) hr (by rfl) T.g__law_run T.F__law_run.kp T.b__law_run (aa_cons (av 0) (aa_cons (av 1) (aa_cons (av 2) (aa_cons (av 3) aa_nil))))) aa_nil))) aa_nil)))) sa_nil))) (sa_gh (sa_one (sa_ret (ea_tup (aa_cons ea_str (aa_cons (ea_ix (av 5) ea_int) (aa_cons (av 6) aa_nil))))))))))))), Tab.rd__law_paper⟩
theorem ok_next_state (T : Txt K mg)  : FnOk P w K mg base CX0 1 T.f_next_state T.fd_next_state ["table", "state", "action"] (spA K Tab.F_next_state) :=
  fn_ok T.F_next_state sc_next_state Tab.len_next_state fun cdv A outer s H E hr => ⟨_, Tab.a_next_state K, (sa_cons (sa_for PassesOwn.never rfl (ia_any (ea_ix (ea_ix (av 0) ea_int) (av 1))) (ga_tup rfl (gsa_cons (ga_name (i := 3) sc_next_state.nd rfl (Or.inl rfl)) (gsa_cons (ga_name (i := 4) sc_next_state.nd rfl (Or.inl rfl)) gsa_nil))) (sa_one (sa_if (ta_cmp (oa_eq hr) (av 3) (av 2)) (sa_one (sa_ret (av 4))) sa_nil))) (sa_one (sa_ret ea_non))), Tab.rd_next_state⟩
theorem ok_walk (T : Txt K mg) (G_next_state : FnOk P w K mg base CX0 1 T.f_next_state T.fd_next_state ["table", "state", "action"] (spA K Tab.F_next_state)) : FnOk P w K mg base CX0 2 T.f_walk T.fd_walk ["table", "actions"] (spA K Tab.F_walk) :=
  fn_ok T.F_walk sc_walk Tab.len_walk fun cdv A outer s H E hr => ⟨_, Tab.a_walk K, (sa_cons (sa_set (i := 2) sc_walk.nd rfl (Or.inl rfl) ea_int) (sa_cons (sa_for PassesOwn.never rfl (ia_any (av 1)) (ga_name (i := 3) sc_walk.nd rfl (Or.inl rfl)) (sa_cons (sa_set (i := 2) sc_walk.nd rfl (Or.inl rfl) (ea_call (G_next_state.mono (k := 1) (by decide)) hr (by rfl) T.g_next_state T.F_next_state.kp T.b_next_state (aa_cons (av 0) (aa_cons (av 2) (aa_cons (av 3) aa_nil))))) (sa_one (sa_if (ta_cmp oa_is (av 2) ea_non) (sa_one (sa_ret ea_non)) sa_nil)))) (sa_one (sa_ret (av 2))))), Tab.rd_walk⟩
theorem ok_takes_part (T : Txt K mg)  : FnOk P w K mg base CX0 1 T.f_takes_part T.fd_takes_part ["party", "action"] (spA K Tab.F_takes_part) :=
  fn_ok T.F_takes_part sc_takes_part Tab.len_takes_part fun cdv A outer s H E hr => ⟨_, Tab.a_takes_part K, (sa_one (sa_ret (ea_cmp oa_in (av 0) (ea_sliceT (av 1) oa_none (oa_some ea_int))))), Tab.rd_takes_part⟩
theorem ok_view (T : Txt K mg) (G_takes_part : FnOk P w K mg base CX0 1 T.f_takes_part T.fd_takes_part ["party", "action"] (spA K Tab.F_takes_part)) : FnOk P w K mg base CX0 2 T.f_view T.fd_view ["actions", "party"] (spA K Tab.F_view) :=
  fn_ok T.F_view sc_view Tab.len_view fun cdv A outer s H E hr => ⟨_, Tab.a_view K, (sa_one (sa_ret (ea_lc (own := [("action", 2)]) rfl sc_view.nd (ia_any (av 0)) (blkOk_by (own := [("action", 2)]) (N := Tab.N_view) (sc := defScope s_view) (by decide +kernel)) (fun _ _ _ _ _ => (pg_name (i := 2) sc_view.nd rfl (Or.inl rfl))) (sgw_name (by decide)) (fun _ _ _ _ _ => (tsa_one (ta_tru (ea_call (G_takes_part.mono (k := 1) (by decide)) hr (by rfl) T.g_takes_part T.F_takes_part.kp T.b_takes_part (aa_cons (av 1) (aa_cons (av 2) aa_nil)))))) (fun _ _ _ _ _ => (av 2))))), Tab.rd_view⟩
theorem ok__could_do (T : Txt K mg) (G_view : FnOk P w K mg base CX0 2 T.f_view T.fd_view ["actions", "party"] (spA K Tab.F_view)) (G_walk : FnOk P w K mg base CX0 2 T.f_walk T.fd_walk ["table", "actions"] (spA K Tab.F_walk)) : FnOk P w K mg base CX0 3 T.f__could_do T.fd__could_do ["table", "run", "action", "party", "other"] (spA K Tab.F__could_do) :=
  fn_ok T.F__could_do sc__could_do Tab.len__could_do fun cdv A outer s H E hr => ⟨_, Tab.a__could_do K, (sa_one (sa_ret (ea_and (ea_cmp (oa_eq hr) (ea_call (G_view.mono (k := 2) (by decide)) hr (by rfl) T.g_view T.F_view.kp T.b_view (aa_cons (av 4) (aa_cons (av 3) aa_nil))) (ea_call (G_view.mono (k := 2) (by decide)) hr (by rfl) T.g_view T.F_view.kp T.b_view (aa_cons (av 1) (aa_cons (av 3) aa_nil)))) (ea_one (ea_cmp oa_isnot (ea_call (G_walk.mono (k := 2) (by decide)) hr (by rfl) T.g_walk T.F_walk.kp T.b_walk (aa_cons (av 0) (aa_cons (ea_op (oa_cat false) (av 4) (ea_lstD (aa_cons (av 2) aa_nil))) aa_nil))) ea_non))))), Tab.rd__could_do⟩
theorem ok__shows_unready (T : Txt K mg) (G_walk : FnOk P w K mg base CX0 2 T.f_walk T.fd_walk ["table", "actions"] (spA K Tab.F_walk)) (G__could_do : FnOk P w K mg base CX0 3 T.f__could_do T.fd__could_do ["table", "run", "action", "party", "other"] (spA K Tab.F__could_do)) : FnOk P w K mg base CX0 4 T.f__shows_unready T.fd__shows_unready ["table", "run", "action", "other"] (spA K Tab.F__shows_unready) :=
  fn_ok T.F__shows_unready sc__shows_unready Tab.len__shows_unready fun cdv A outer s H E hr => ⟨_, Tab.a__shows_unready K, (sa_cons (sa_if (PWa.pt (wa_or (ta_cmp oa_is (ea_call (G_walk.mono (k := 3) (by decide)) hr (by rfl) T.g_walk T.F_walk.kp T.b_walk (aa_cons (av 0) (aa_cons (av 1) aa_nil))) ea_non) (wa_or1 (ta_cmp oa_isnot (ea_call (G_walk.mono (k := 3) (by decide)) hr (by rfl) T.g_walk T.F_walk.kp T.b_walk (aa_cons (av 0) (aa_cons (ea_op (oa_cat false) (av 1) (ea_lstD (aa_cons (av 2) aa_nil))) aa_nil))) ea_non)))) (sa_one (sa_ret ea_bl)) sa_nil) (sa_one (sa_ret (ea_call (G__could_do.mono (k := 3) (by decide)) hr (by rfl) T.g__could_do T.F__could_do.kp T.b__could_do (aa_cons (av 0) (aa_cons (av 1) (aa_cons (av 2) (aa_cons (ea_ix (av 2) ea_int) (aa_cons (av 3) aa_nil))))))))), Tab.rd__shows_unready⟩
theorem ok__shows_stray (T : Txt K mg) (G__shows_unready : FnOk P w K mg base CX0 4 T.f__shows_unready T.fd__shows_unready ["table", "run", "action", "other"] (spA K Tab.F__shows_unready)) (G__could_do : FnOk P w K mg base CX0 3 T.f__could_do T.fd__could_do ["table", "run", "action", "party", "other"] (spA K Tab.F__could_do)) : FnOk P w K mg base CX0 5 T.f__shows_stray T.fd__shows_stray ["table", "run", "action", "first", "second"] (spA K Tab.F__shows_stray) :=
  fn_ok T.F__shows_stray sc__shows_stray Tab.len__shows_stray fun cdv A outer s H E hr => ⟨_, Tab.a__shows_stray K, (sa_one (sa_ret (ea_and (ea_call (G__shows_unready.mono (k := 4) (by decide)) hr (by rfl) T.g__shows_unready T.F__shows_unready.kp T.b__shows_unready (aa_cons (av 0) (aa_cons (av 1) (aa_cons (av 2) (aa_cons (av 3) aa_nil))))) (ea_one (ea_call (G__could_do.mono (k := 4) (by decide)) hr (by rfl) T.g__could_do T.F__could_do.kp T.b__could_do (aa_cons (av 0) (aa_cons (av 1) (aa_cons (av 2) (aa_cons (ea_ix (av 2) ea_int) (aa_cons (av 4) aa_nil)))))))))), Tab.rd__shows_stray⟩
theorem ok_senders_at (T : Txt K mg)  : FnOk P w K mg base CX0 1 T.f_senders_at T.fd_senders_at ["table", "state"] (spA K Tab.F_senders_at) :=
  fn_ok T.F_senders_at sc_senders_at Tab.len_senders_at fun cdv A outer s H E hr => ⟨_, Tab.a_senders_at K, (sa_one (sa_ret (ea_sortSet rfl (by rfl) T.m_sorted (by rfl) T.m_set (ea_lc (own := [("action", 2), ("_", 3)]) rfl sc_senders_at.nd (ia_any (ea_ix (ea_ix (av 0) ea_int) (av 1))) (blkOk_by (own := [("action", 2), ("_", 3)]) (N := Tab.N_senders_at) (sc := defScope s_senders_at) (by decide +kernel)) (fun _ _ _ _ _ => (pg_tup rfl (pgs_cons (pg_name (i := 2) sc_senders_at.nd rfl (Or.inl rfl)) (pgs_cons (pg_name (i := 3) sc_senders_at.nd rfl (Or.inl rfl)) pgs_nil)))) (sgw_tup (sgsw_cons (sgw_name (by decide)) (sgsw_cons (sgw_name (by decide)) sgsw_nil))) (fun _ _ _ _ _ => tsa_nil) (fun _ _ _ _ _ => (ea_ix (av 2) ea_int)))))), Tab.rd_senders_at⟩
theorem ok__could_rest (T : Txt K mg) (G_walk : FnOk P w K mg base CX0 2 T.f_walk T.fd_walk ["table", "actions"] (spA K Tab.F_walk)) (G_view : FnOk P w K mg base CX0 2 T.f_view T.fd_view ["actions", "party"] (spA K Tab.F_view)) : FnOk P w K mg base CX0 3 T.f__could_rest T.fd__could_rest ["table", "run", "party", "other"] (spA K Tab.F__could_rest) :=
  fn_ok T.F__could_rest sc__could_rest Tab.len__could_rest fun cdv A outer s H E hr => ⟨_, Tab.a__could_rest K, (sa_cons (sa_set (i := 4) sc__could_rest.nd rfl (Or.inl rfl) (ea_call (G_walk.mono (k := 2) (by decide)) hr (by rfl) T.g_walk T.F_walk.kp T.b_walk (aa_cons (av 0) (aa_cons (av 3) aa_nil)))) (sa_one (sa_ret (ea_and (ea_cmp oa_isnot (av 4) ea_non) (ea_and (ea_ix (ea_ix (av 0) ea_int) (av 4)) (ea_one (ea_cmp (oa_eq hr) (ea_call (G_view.mono (k := 2) (by decide)) hr (by rfl) T.g_view T.F_view.kp T.b_view (aa_cons (av 3) (aa_cons (av 2) aa_nil))) (ea_call (G_view.mono (k := 2) (by decide)) hr (by rfl) T.g_view T.F_view.kp T.b_view (aa_cons (av 1) (aa_cons (av 2) aa_nil)))))))))), Tab.rd__could_rest⟩
theorem ok__shows_idle (T : Txt K mg) (G_walk : FnOk P w K mg base CX0 2 T.f_walk T.fd_walk ["table", "actions"] (spA K Tab.F_walk)) (G_senders_at : FnOk P w K mg base CX0 1 T.f_senders_at T.fd_senders_at ["table", "state"] (spA K Tab.F_senders_at)) (G__could_rest : FnOk P w K mg base CX0 3 T.f__could_rest T.fd__could_rest ["table", "run", "party", "other"] (spA K Tab.F__could_rest)) : FnOk P w K mg base CX0 4 T.f__shows_idle T.fd__shows_idle ["table", "run", "others"] (spA K Tab.F__shows_idle) :=
  fn_ok T.F__shows_idle sc__shows_idle Tab.len__shows_idle fun cdv A outer s H E hr => ⟨_, Tab.a__shows_idle K, (sa_cons (sa_set (i := 3) sc__shows_idle.nd rfl (Or.inl rfl) (ea_call (G_walk.mono (k := 3) (by decide)) hr (by rfl) T.g_walk T.F_walk.kp T.b_walk (aa_cons (av 0) (aa_cons (av 1) aa_nil)))) (sa_cons (sa_if (PWa.pt (wa_or (ta_cmp oa_is (av 3) ea_non) (wa_or1 (ta_tru (ea_ix (ea_ix (av 0) ea_int) (av 3)))))) (sa_one (sa_ret ea_bl)) sa_nil) (sa_cons (sa_if (ta_cmp (oa_ne hr) (ea_lc (own := [("party", 4), ("_", 5)]) rfl sc__shows_idle.nd (ia_any (av 2)) (blkOk_by (own := [("party", 4), ("_", 5)]) (N := Tab.N__shows_idle) (sc := defScope s__shows_idle) (by decide +kernel)) (fun _ _ _ _ _ => (pg_tup rfl (pgs_cons (pg_name (i := 4) sc__shows_idle.nd rfl (Or.inl rfl)) (pgs_cons (pg_name (i := 5) sc__shows_idle.nd rfl (Or.inl rfl)) pgs_nil)))) (sgw_tup (sgsw_cons (sgw_name (by decide)) (sgsw_cons (sgw_name (by decide)) sgsw_nil))) (fun _ _ _ _ _ => tsa_nil) (fun _ _ _ _ _ => (av 4))) (ea_call (G_senders_at.mono (k := 3) (by decide)) hr (by rfl) T.g_senders_at T.F_senders_at.kp T.b_senders_at (aa_cons (av 0) (aa_cons (av 3) aa_nil)))) (sa_one (sa_ret ea_bl)) sa_nil) (sa_one (sa_ret (ea_cb (ca_all rfl) (by rfl) T.m_all (by decide +kernel) (aa_cons (ea_lc (own := [("party", 4), ("other", 6)]) rfl sc__shows_idle.nd (ia_any (av 2)) (blkOk_by (own := [("party", 4), ("other", 6)]) (N := Tab.N__shows_idle) (sc := defScope s__shows_idle) (by decide +kernel)) (fun _ _ _ _ _ => (pg_tup rfl (pgs_cons (pg_name (i := 4) sc__shows_idle.nd rfl (Or.inl rfl)) (pgs_cons (pg_name (i := 6) sc__shows_idle.nd rfl (Or.inl rfl)) pgs_nil)))) (sgw_tup (sgsw_cons (sgw_name (by decide)) (sgsw_cons (sgw_name (by decide)) sgsw_nil))) (fun _ _ _ _ _ => tsa_nil) (fun _ _ _ _ _ => (ea_call (G__could_rest.mono (k := 3) (by decide)) hr (by rfl) T.g__could_rest T.F__could_rest.kp T.b__could_rest (aa_cons (av 0) (aa_cons (av 1) (aa_cons (av 4) (aa_cons (av 6) aa_nil))))))) aa_nil))))))), Tab.rd__shows_idle⟩
theorem ok_judge (T : Txt K mg) (G__shows_stray : FnOk P w K mg base CX0 5 T.f__shows_stray T.fd__shows_stray ["table", "run", "action", "first", "second"] (spA K Tab.F__shows_stray)) (G__shows_unready : FnOk P w K mg base CX0 4 T.f__shows_unready T.fd__shows_unready ["table", "run", "action", "other"] (spA K Tab.F__shows_unready)) (G__shows_idle : FnOk P w K mg base CX0 4 T.f__shows_idle T.fd__shows_idle ["table", "run", "others"] (spA K Tab.F__shows_idle)) : FnOk P w K mg base CX0 6 T.f_judge T.fd_judge ["table", "certificate"] (spA K Tab.F_judge) :=
  fn_ok T.F_judge sc_judge Tab.len_judge fun cdv A outer s H E hr => ⟨_, Tab.a_judge K, (sa_cons (sa_asg (av 1) (ga_starT rfl (gsa_cons (ga_name (i := 2) sc_judge.nd rfl (Or.inl rfl)) (gsa_cons (ga_name (i := 3) sc_judge.nd rfl (Or.inl rfl)) gsa_nil)))) (sa_cons (sa_if (PWa.pt (wa_and (ta_cmp (oa_eq hr) (av 2) ea_str) (wa_and1 (ta_cmp (oa_eq hr) (ea_cb ca_len (by rfl) T.m_len (by decide +kernel) (aa_cons (av 3) aa_nil)) ea_int)))) (sa_one (sa_ret (ea_callS (G__shows_stray.mono (k := 5) (by decide)) hr (by rfl) T.g__shows_stray T.F__shows_stray.kp T.b__shows_stray (aa_cons (av 0) (aa_star (av 3) aa_nil))))) sa_nil) (sa_cons (sa_if (PWa.pt (wa_and (ta_cmp (oa_eq hr) (av 2) ea_str) (wa_and1 (ta_cmp (oa_eq hr) (ea_cb ca_len (by rfl) T.m_len (by decide +kernel) (aa_cons (av 3) aa_nil)) ea_int)))) (sa_one (sa_ret (ea_callS (G__shows_unready.mono (k := 5) (by decide)) hr (by rfl) T.g__shows_unready T.F__shows_unready.kp T.b__shows_unready (aa_cons (av 0) (aa_star (av 3) aa_nil))))) sa_nil) (sa_cons (sa_if (PWa.pt (wa_and (ta_cmp (oa_eq hr) (av 2) ea_str) (wa_and1 (ta_cmp (oa_eq hr) (ea_cb ca_len (by rfl) T.m_len (by decide +kernel) (aa_cons (av 3) aa_nil)) ea_int)))) (sa_one (sa_ret (ea_callS (G__shows_idle.mono (k := 5) (by decide)) hr (by rfl) T.g__shows_idle T.F__shows_idle.kp T.b__shows_idle (aa_cons (av 0) (aa_star (av 3) aa_nil))))) sa_nil) (sa_one (sa_ret ea_bl)))))), Tab.rd_judge⟩
theorem ok__law_step (T : Txt K mg)  : FnOk P w K mg base CX0 1 T.f__law_step T.fd__law_step ["table", "state", "action"] (spA K Tab.F__law_step) :=
  fn_ok T.F__law_step sc__law_step Tab.len__law_step fun cdv A outer s H E hr => ⟨_, Tab.a__law_step K, (sa_cons (sa_for PassesOwn.never rfl (ia_any (ea_ix (ea_ix (av 0) ea_int) (av 1))) (ga_tup rfl (gsa_cons (ga_name (i := 3) sc__law_step.nd rfl (Or.inl rfl)) (gsa_cons (ga_name (i := 4) sc__law_step.nd rfl (Or.inl rfl)) gsa_nil))) (sa_one (sa_if (ta_cmp (oa_eq hr) (av 3) (av 2)) (sa_one (sa_ret (av 4))) sa_nil))) (sa_one (sa_ret ea_non))), Tab.rd__law_step⟩
theorem ok__law_walk (T : Txt K mg) (G__law_step : FnOk P w K mg base CX0 1 T.f__law_step T.fd__law_step ["table", "state", "action"] (spA K Tab.F__law_step)) : FnOk P w K mg base CX0 2 T.f__law_walk T.fd__law_walk ["table", "actions"] (spA K Tab.F__law_walk) :=
  fn_ok T.F__law_walk sc__law_walk Tab.len__law_walk fun cdv A outer s H E hr => ⟨_, Tab.a__law_walk K, (sa_cons (sa_set (i := 2) sc__law_walk.nd rfl (Or.inl rfl) ea_int) (sa_cons (sa_for PassesOwn.never rfl (ia_any (av 1)) (ga_name (i := 3) sc__law_walk.nd rfl (Or.inl rfl)) (sa_one (sa_if (ta_cmp oa_isnot (av 2) ea_non) (sa_one (sa_set (i := 2) sc__law_walk.nd rfl (Or.inl rfl) (ea_call (G__law_step.mono (k := 1) (by decide)) hr (by rfl) T.g__law_step T.F__law_step.kp T.b__law_step (aa_cons (av 0) (aa_cons (av 2) (aa_cons (av 3) aa_nil)))))) sa_nil))) (sa_one (sa_ret (av 2))))), Tab.rd__law_walk⟩
theorem ok__law_parties (T : Txt K mg)  : FnOk P w K mg base CX0 1 T.f__law_parties T.fd__law_parties ["table"] (spA K Tab.F__law_parties) :=
  fn_ok T.F__law_parties sc__law_parties Tab.len__law_parties fun cdv A outer s H E hr => ⟨_, Tab.a__law_parties K, (sa_cons (sa_set (i := 1) sc__law_parties.nd rfl (Or.inl rfl) (ea_lst aa_nil)) (sa_cons (sa_for PassesOwn.never rfl (ia_any (ea_ix (av 0) ea_int)) (ga_name (i := 2) sc__law_parties.nd rfl (Or.inl rfl)) (sa_one (sa_for PassesOwn.never rfl (ia_any (av 2)) (ga_tup rfl (gsa_cons (ga_name (i := 3) sc__law_parties.nd rfl (Or.inl rfl)) (gsa_cons (ga_name (i := 4) sc__law_parties.nd rfl (Or.inl rfl)) gsa_nil))) (sa_one (sa_for PassesOwn.never rfl (ia_any (ea_lstD (aa_cons (ea_ix (av 3) ea_int) (aa_cons (ea_ix (av 3) ea_int) aa_nil)))) (ga_name (i := 5) sc__law_parties.nd rfl (Or.inl rfl)) (sa_one (sa_if (ta_cmp oa_notin (av 5) (av 1)) (sa_one (sa_drop (ea_bm ma_append PySem.F.plainAttrs_list PySem.F.slot_list_append PySem.F.type_list_append (av 1) (aa_cons (av 5) aa_nil)))) sa_nil))))))) (sa_one (sa_ret (ea_cb (ca_sort rfl) (by rfl) T.m_sorted (by decide +kernel) (aa_cons (av 1) aa_nil)))))), Tab.rd__law_parties⟩
theorem ok__law_view (T : Txt K mg)  : FnOk P w K mg base CX0 1 T.f__law_view T.fd__law_view ["actions", "party"] (spA K Tab.F__law_view) :=
  fn_ok T.F__law_view sc__law_view Tab.len__law_view fun cdv A outer s H E hr => ⟨_, Tab.a__law_view K, (sa_one (sa_ret (ea_lc (own := [("action", 2)]) rfl sc__law_view.nd (ia_any (av 0)) (blkOk_by (own := [("action", 2)]) (N := Tab.N__law_view) (sc := defScope s__law_view) (by decide +kernel)) (fun _ _ _ _ _ => (pg_name (i := 2) sc__law_view.nd rfl (Or.inl rfl))) (sgw_name (by decide)) (fun _ _ _ _ _ => (tsa_one (ta_cmp oa_in (av 1) (ea_lstD (aa_cons (ea_ix (av 2) ea_int) (aa_cons (ea_ix (av 2) ea_int) aa_nil)))))) (fun _ _ _ _ _ => (av 2))))), Tab.rd__law_view⟩
theorem ok__law_same_view (T : Txt K mg) (G__law_view : FnOk P w K mg base CX0 1 T.f__law_view T.fd__law_view ["actions", "party"] (spA K Tab.F__law_view)) : FnOk P w K mg base CX0 2 T.f__law_same_view T.fd__law_same_view ["one", "other", "party"] (spA K Tab.F__law_same_view) :=
  fn_ok T.F__law_same_view sc__law_same_view Tab.len__law_same_view fun cdv A outer s H E hr => ⟨_, Tab.a__law_same_view K, (sa_one (sa_ret (ea_cmp (oa_eq hr) (ea_call (G__law_view.mono (k := 1) (by decide)) hr (by rfl) T.g__law_view T.F__law_view.kp T.b__law_view (aa_cons (av 0) (aa_cons (av 2) aa_nil))) (ea_call (G__law_view.mono (k := 1) (by decide)) hr (by rfl) T.g__law_view T.F__law_view.kp T.b__law_view (aa_cons (av 1) (aa_cons (av 2) aa_nil)))))), Tab.rd__law_same_view⟩
theorem ok__law_goes (T : Txt K mg) (G__law_walk : FnOk P w K mg base CX0 2 T.f__law_walk T.fd__law_walk ["table", "actions"] (spA K Tab.F__law_walk)) : FnOk P w K mg base CX0 3 T.f__law_goes T.fd__law_goes ["table", "run", "action"] (spA K Tab.F__law_goes) :=
  fn_ok T.F__law_goes sc__law_goes Tab.len__law_goes fun cdv A outer s H E hr => ⟨_, Tab.a__law_goes K, (sa_one (sa_ret (ea_cmp oa_isnot (ea_call (G__law_walk.mono (k := 2) (by decide)) hr (by rfl) T.g__law_walk T.F__law_walk.kp T.b__law_walk (aa_cons (av 0) (aa_cons (ea_op (oa_cat false) (ea_ct (ca_list false) (by rfl) T.m_list (by decide +kernel) (aa_cons (av 1) aa_nil)) (ea_lstD (aa_cons (av 2) aa_nil))) aa_nil))) ea_non))), Tab.rd__law_goes⟩
theorem ok__law_holds (T : Txt K mg) (G__law_walk : FnOk P w K mg base CX0 2 T.f__law_walk T.fd__law_walk ["table", "actions"] (spA K Tab.F__law_walk)) (G__law_parties : FnOk P w K mg base CX0 1 T.f__law_parties T.fd__law_parties ["table"] (spA K Tab.F__law_parties)) (G__law_same_view : FnOk P w K mg base CX0 2 T.f__law_same_view T.fd__law_same_view ["one", "other", "party"] (spA K Tab.F__law_same_view)) (G__law_goes : FnOk P w K mg base CX0 3 T.f__law_goes T.fd__law_goes ["table", "run", "action"] (spA K Tab.F__law_goes)) : FnOk P w K mg base CX0 4 T.f__law_holds T.fd__law_holds ["table", "paper"] (spA K Tab.F__law_holds) :=
  fn_ok T.F__law_holds sc__law_holds Tab.len__law_holds fun cdv A outer s H E hr => ⟨_, Tab.a__law_holds K, (sa_cons (sa_if (PWa.pt (wa_or (ta_not (ta_tru (ea_cb ca_isi (by rfl) T.m_isinstance (by decide +kernel) (aa_cons (av 1) (aa_cons (ea_ty (by rfl) T.m_tuple (by decide +kernel)) aa_nil))))) (wa_or1 (ta_cmp oa_notin (ea_ix (av 1) ea_int) (ea_lstD (aa_cons ea_str (aa_cons ea_str (aa_cons ea_str aa_nil)))))))) (sa_one (sa_ret ea_bl)) sa_nil) (sa_cons (sa_set (i := 2) sc__law_holds.nd rfl (Or.inl rfl) (ea_ix (av 1) ea_int)) (sa_cons (sa_set (i := 3) sc__law_holds.nd rfl (Or.inl rfl) (ea_call (G__law_walk.mono (k := 3) (by decide)) hr (by rfl) T.g__law_walk T.F__law_walk.kp T.b__law_walk (aa_cons (av 0) (aa_cons (av 2) aa_nil)))) (sa_cons (sa_if (ta_cmp oa_is (av 3) ea_non) (sa_one (sa_ret ea_bl)) sa_nil) (sa_cons (sa_if (ta_cmp (oa_eq hr) (ea_ix (av 1) ea_int) ea_str) (sa_cons (sa_set (i := 4) sc__law_holds.nd rfl (Or.inr rfl) (ea_lc (own := [("action", 8), ("goal", 7)]) rfl sc__law_holds.nd (ia_any (ea_ix (ea_ix (av 0) ea_int) (av 3))) (blkOk_by (own := [("action", 8), ("goal", 7)]) (N := Tab.N__law_holds) (sc := defScope s__law_holds) (by decide +kernel)) (fun _ _ _ _ _ => (pg_tup rfl (pgs_cons (pg_name (i := 8) sc__law_holds.nd rfl (Or.inl rfl)) (pgs_cons (pg_name (i := 7) sc__law_holds.nd rfl (Or.inl rfl)) pgs_nil)))) (sgw_tup (sgsw_cons (sgw_name (by decide)) (sgsw_cons (sgw_name (by decide)) sgsw_nil))) (fun _ _ _ _ _ => tsa_nil) (fun _ _ _ _ _ => (ea_ix (av 8) ea_int)))) (sa_cons (sa_if (PWa.pt (wa_or (ta_tru (ea_ix (ea_ix (av 0) ea_int) (av 3))) (wa_or1 (ta_cmp (oa_ne hr) (ea_lc (own := [("other", 6)]) rfl sc__law_holds.nd (ia_any (ea_ix (av 1) ea_int)) (blkOk_by (own := [("other", 6)]) (N := Tab.N__law_holds) (sc := defScope s__law_holds) (by decide +kernel)) (fun _ _ _ _ _ => (pg_name (i := 6) sc__law_holds.nd rfl (Or.inl rfl))) (sgw_name (by decide)) (fun _ _ _ _ _ => tsa_nil) (fun _ _ _ _ _ => (ea_ix (av 6) ea_int))) (ea_cb (ca_sort rfl) (by rfl) T.m_sorted (by decide +kernel) (aa_cons (ea_lc (own := [("p", 10)]) rfl sc__law_holds.nd (ia_any (ea_call (G__law_parties.mono (k := 3) (by decide)) hr (by rfl) T.g__law_parties T.F__law_parties.kp T.b__law_parties (aa_cons (av 0) aa_nil))) (blkOk_by (own := [("p", 10)]) (N := Tab.N__law_holds) (sc := defScope s__law_holds) (by decide +kernel)) (fun _ _ _ _ _ => (pg_name (i := 10) sc__law_holds.nd rfl (Or.inl rfl))) (sgw_name (by decide)) (fun _ _ _ _ _ => (tsa_one (ta_cmp oa_in (av 10) (av 4)))) (fun _ _ _ _ _ => (av 10))) aa_nil)))))) (sa_one (sa_ret ea_bl)) sa_nil) (sa_cons (sa_for PassesOwn.never rfl (ia_any (ea_ix (av 1) ea_int)) (ga_tup rfl (gsa_cons (ga_name (i := 5) sc__law_holds.nd rfl (Or.inl rfl)) (gsa_cons (ga_name (i := 6) sc__law_holds.nd rfl (Or.inl rfl)) gsa_nil))) (sa_cons (sa_set (i := 7) sc__law_holds.nd rfl (Or.inl rfl) (ea_call (G__law_walk.mono (k := 3) (by decide)) hr (by rfl) T.g__law_walk T.F__law_walk.kp T.b__law_walk (aa_cons (av 0) (aa_cons (av 6) aa_nil)))) (sa_one (sa_if (PWa.pt (wa_or (ta_cmp oa_is (av 7) ea_non) (wa_or (ta_not (ta_tru (ea_ix (ea_ix (av 0) ea_int) (av 7)))) (wa_or1 (ta_not (ta_tru (ea_call (G__law_same_view.mono (k := 3) (by decide)) hr (by rfl) T.g__law_same_view T.F__law_same_view.kp T.b__law_same_view (aa_cons (av 2) (aa_cons (av 6) (aa_cons (av 5) aa_nil)))))))))) (sa_one (sa_ret ea_bl)) sa_nil)))) (sa_one (sa_ret ea_bl))))) sa_nil) (sa_cons (sa_set (i := 8) sc__law_holds.nd rfl (Or.inl rfl) (ea_ix (av 1) ea_int)) (sa_cons (sa_if (ta_tru (ea_call (G__law_goes.mono (k := 3) (by decide)) hr (by rfl) T.g__law_goes T.F__law_goes.kp T.b__law_goes (aa_cons (av 0) (aa_cons (av 2) (aa_cons (av 8) aa_nil))))) (sa_one (sa_ret ea_bl)) sa_nil) (sa_cons (sa_for PassesOwn.never rfl (ia_rng2 (by rfl) T.m_range (aa_cons ea_int (aa_cons (ea_cb ca_len (by rfl) T.m_len (by decide +kernel) (aa_cons (av 1) aa_nil)) aa_nil))) (ga_name (i := 9) sc__law_holds.nd rfl (Or.inl rfl)) (sa_one (sa_if (PWa.pt (wa_or (ta_not (ta_tru (ea_call (G__law_same_view.mono (k := 3) (by decide)) hr (by rfl) T.g__law_same_view T.F__law_same_view.kp T.b__law_same_view (aa_cons (av 2) (aa_cons (ea_ix (av 1) (av 9)) (aa_cons (ea_ix (av 8) (ea_op oa_sub (av 9) ea_int)) aa_nil)))))) (wa_or1 (ta_not (ta_tru (ea_call (G__law_goes.mono (k := 3) (by decide)) hr (by rfl) T.g__law_goes T.F__law_goes.kp T.b__law_goes (aa_cons (av 0) (aa_cons (ea_ix (av 1) (av 9)) (aa_cons (av 8) aa_nil))))))))) (sa_one (sa_ret ea_bl)) sa_nil))) (sa_one (sa_ret (ea_cmp (oa_eq hr) (ea_cb ca_len (by rfl) T.m_len (by decide +kernel) (aa_cons (av 1) aa_nil)) (ea_ix (ea_lstD (aa_cons ea_int (aa_cons ea_int aa_nil))) (ea_ct ca_int (by rfl) T.m_int (by decide +kernel) (aa_cons (ea_cmp (oa_eq hr) (ea_ix (av 1) ea_int) ea_str) aa_nil)))))))))))))), Tab.rd__law_holds⟩
theorem ok_law (T : Txt K mg) (G__law_state : FnOk P w K mg base CX0 1 T.f__law_state T.fd__law_state ["script"] (spA K Tab.F__law_state)) (G__law_names : FnOk P w K mg base CX0 3 T.f__law_names T.fd__law_names ["state", "count", "taken"] (spA K Tab.F__law_names)) (G__law_draw : FnOk P w K mg base CX0 1 T.f__law_draw T.fd__law_draw ["state", "limit"] (spA K Tab.F__law_draw)) (G__law_table : FnOk P w K mg base CX0 3 T.f__law_table T.fd__law_table ["state", "parties", "labels", "size"] (spA K Tab.F__law_table)) (G__law_paper : FnOk P w K mg base CX0 4 T.f__law_paper T.fd__law_paper ["state", "table", "parties", "labels"] (spA K Tab.F__law_paper)) (G_judge : FnOk P w K mg base CX0 6 T.f_judge T.fd_judge ["table", "certificate"] (spA K Tab.F_judge)) (G__law_holds : FnOk P w K mg base CX0 4 T.f__law_holds T.fd__law_holds ["table", "paper"] (spA K Tab.F__law_holds)) : FnOk P w K mg base CX0 7 T.f_law T.fd_law ["script"] (spA K F_law) :=
  fn_ok T.F_law sc_law Ab.len_law fun cdv A outer s H E hr => ⟨_, a_law K, (sa_cons (sa_set (i := 1) sc_law.nd rfl (Or.inl rfl) (ea_call (G__law_state.mono (k := 6) (by decide)) hr (by rfl) T.g__law_state T.F__law_state.kp T.b__law_state (aa_cons (av 0) aa_nil))) (sa_cons (sa_set (i := 2) sc_law.nd rfl (Or.inl rfl) (ea_call (G__law_names.mono (k := 6) (by decide)) hr (by rfl) T.g__law_names T.F__law_names.kp T.b__law_names (aa_cons (av 1) (aa_cons (ea_op oa_add ea_int (ea_call (G__law_draw.mono (k := 6) (by decide)) hr (by rfl) T.g__law_draw T.F__law_draw.kp T.b__law_draw (aa_cons (av 1) (aa_cons ea_int aa_nil)))) (aa_cons (ea_lstD aa_nil) aa_nil))))) (sa_cons (sa_set (i := 3) sc_law.nd rfl (Or.inl rfl) (ea_call (G__law_names.mono (k := 6) (by decide)) hr (by rfl) T.g__law_names T.F__law_names.kp T.b__law_names (aa_cons (av 1) (aa_cons (ea_op oa_add ea_int (ea_call (G__law_draw.mono (k := 6) (by decide)) hr (by rfl) T.g__law_draw T.F__law_draw.kp T.b__law_draw (aa_cons (av 1) (aa_cons ea_int aa_nil)))) (aa_cons (ea_lstD aa_nil) aa_nil))))) (sa_cons (sa_set (i := 4) sc_law.nd rfl (Or.inl rfl) (ea_call (G__law_table.mono (k := 6) (by decide)) hr (by rfl) T.g__law_table T.F__law_table.kp T.b__law_table (aa_cons (av 1) (aa_cons (av 2) (aa_cons (av 3) (aa_cons (ea_op oa_add ea_int (ea_call (G__law_draw.mono (k := 6) (by decide)) hr (by rfl) T.g__law_draw T.F__law_draw.kp T.b__law_draw (aa_cons (av 1) (aa_cons ea_int aa_nil)))) aa_nil)))))) (sa_cons (sa_for PassesOwn.never rfl (ia_rng1 (by rfl) T.m_range (aa_cons ea_int aa_nil)) (ga_name (i := 5) sc_law.nd rfl (Or.inl rfl)) (sa_cons (sa_set (i := 6) sc_law.nd rfl (Or.inl rfl) (ea_call (G__law_paper.mono (k := 6) (by decide)) hr (by rfl) T.g__law_paper T.F__law_paper.kp T.b__law_paper (aa_cons (av 1) (aa_cons (av 4) (aa_cons (av 2) (aa_cons (av 3) aa_nil)))))) (sa_cons (sa_set (i := 7) sc_law.nd rfl (Or.inl rfl) (ea_call (G_judge.mono (k := 6) (by decide)) hr (by rfl) T.g_judge T.F_judge.kp T.b_judge (aa_cons (av 4) (aa_cons (av 6) aa_nil)))) (sa_one (sa_if (PWa.pt (wa_or (ta_not (ta_tru (ea_cb ca_isi (by rfl) T.m_isinstance (by decide +kernel) (aa_cons (av 7) (aa_cons (ea_ty (by rfl) T.m_bool (by decide +kernel)) aa_nil))))) (wa_or1 (ta_cmp (oa_ne hr) (av 7) (ea_call (G__law_holds.mono (k := 6) (by decide)) hr (by rfl) T.g__law_holds T.F__law_holds.kp T.b__law_holds (aa_cons (av 4) (aa_cons (av 6) aa_nil))))))) (sa_one (sa_ret ea_bl)) sa_nil))))) (sa_one (sa_ret ea_bl))))))), rd_law⟩
theorem all_ok (T : Txt K mg) : FnOk P w K mg base CX0 7 T.f_law T.fd_law ["script"] (spA K F_law) := by
  have G__law_state := ok__law_state (P := P) (w := w) (base := base) T 
  have G__law_draw := ok__law_draw (P := P) (w := w) (base := base) T 
  have G__law_name := ok__law_name (P := P) (w := w) (base := base) T G__law_draw
  have G__law_names := ok__law_names (P := P) (w := w) (base := base) T G__law_name
  have G__law_edge := ok__law_edge (P := P) (w := w) (base := base) T G__law_draw
  have G__law_table := ok__law_table (P := P) (w := w) (base := base) T G__law_edge G__law_draw
  have G__law_action := ok__law_action (P := P) (w := w) (base := base) T G__law_draw
  have G__law_run := ok__law_run (P := P) (w := w) (base := base) T G__law_draw G__law_action
  have G__law_paper := ok__law_paper (P := P) (w := w) (base := base) T G__law_draw G__law_run G__law_action
  have G_next_state := ok_next_state (P := P) (w := w) (base := base) T 
  have G_walk := ok_walk (P := P) (w := w) (base := base) T G_next_state
  have G_takes_part := ok_takes_part (P := P) (w := w) (base := base) T 
  have G_view := ok_view (P := P) (w := w) (base := base) T G_takes_part
  have G__could_do := ok__could_do (P := P) (w := w) (base := base) T G_view G_walk
  have G__shows_unready := ok__shows_unready (P := P) (w := w) (base := base) T G_walk G__could_do
  have G__shows_stray := ok__shows_stray (P := P) (w := w) (base := base) T G__shows_unready G__could_do
  have G_senders_at := ok_senders_at (P := P) (w := w) (base := base) T 
  have G__could_rest := ok__could_rest (P := P) (w := w) (base := base) T G_walk G_view
  have G__shows_idle := ok__shows_idle (P := P) (w := w) (base := base) T G_walk G_senders_at G__could_rest
  have G_judge := ok_judge (P := P) (w := w) (base := base) T G__shows_stray G__shows_unready G__shows_idle
  have G__law_step := ok__law_step (P := P) (w := w) (base := base) T 
  have G__law_walk := ok__law_walk (P := P) (w := w) (base := base) T G__law_step
  have G__law_parties := ok__law_parties (P := P) (w := w) (base := base) T 
  have G__law_view := ok__law_view (P := P) (w := w) (base := base) T 
  have G__law_same_view := ok__law_same_view (P := P) (w := w) (base := base) T G__law_view
  have G__law_goes := ok__law_goes (P := P) (w := w) (base := base) T G__law_walk
  have G__law_holds := ok__law_holds (P := P) (w := w) (base := base) T G__law_walk G__law_parties G__law_same_view G__law_goes
  have G_law := ok_law (P := P) (w := w) (base := base) T G__law_state G__law_names G__law_draw G__law_table G__law_paper G_judge G__law_holds
  exact G_law
theorem all_mk {K : PySem.W.Frag} {h : Heap} {mg : Str → Option Value} {fa : Addr} (X : K.In h) (Gn : h.Ns mainGlobals mg) (hfa : mg "law" = some (.ref fa))
    {f0 : Addr} {od0 an0 : Option Addr} {sl0 : Array (Option Value)} {oc0 kV0 dc0 pm0 cd0 ct0 : Value}
    {f1 : Addr} {od1 an1 : Option Addr} {sl1 : Array (Option Value)} {oc1 kV1 dc1 pm1 cd1 ct1 : Value}
    {f2 : Addr} {od2 an2 : Option Addr} {sl2 : Array (Option Value)} {oc2 kV2 dc2 pm2 cd2 ct2 : Value}
    {f3 : Addr} {od3 an3 : Option Addr} {sl3 : Array (Option Value)} {oc3 kV3 dc3 pm3 cd3 ct3 : Value}
    {f4 : Addr} {od4 an4 : Option Addr} {sl4 : Array (Option Value)} {oc4 kV4 dc4 pm4 cd4 ct4 : Value}
    {f5 : Addr} {od5 an5 : Option Addr} {sl5 : Array (Option Value)} {oc5 kV5 dc5 pm5 cd5 ct5 : Value}
    {f6 : Addr} {od6 an6 : Option Addr} {sl6 : Array (Option Value)} {oc6 kV6 dc6 pm6 cd6 ct6 : Value}
    {f7 : Addr} {od7 an7 : Option Addr} {sl7 : Array (Option Value)} {oc7 kV7 dc7 pm7 cd7 ct7 : Value}
    {f8 : Addr} {od8 an8 : Option Addr} {sl8 : Array (Option Value)} {oc8 kV8 dc8 pm8 cd8 ct8 : Value}
    {f9 : Addr} {od9 an9 : Option Addr} {sl9 : Array (Option Value)} {oc9 kV9 dc9 pm9 cd9 ct9 : Value}
    {f10 : Addr} {od10 an10 : Option Addr} {sl10 : Array (Option Value)} {oc10 kV10 dc10 pm10 cd10 ct10 : Value}
    {f11 : Addr} {od11 an11 : Option Addr} {sl11 : Array (Option Value)} {oc11 kV11 dc11 pm11 cd11 ct11 : Value}
    {f12 : Addr} {od12 an12 : Option Addr} {sl12 : Array (Option Value)} {oc12 kV12 dc12 pm12 cd12 ct12 : Value}
    {f13 : Addr} {od13 an13 : Option Addr} {sl13 : Array (Option Value)} {oc13 kV13 dc13 pm13 cd13 ct13 : Value}
    {f14 : Addr} {od14 an14 : Option Addr} {sl14 : Array (Option Value)} {oc14 kV14 dc14 pm14 cd14 ct14 : Value}
    {f15 : Addr} {od15 an15 : Option Addr} {sl15 : Array (Option Value)} {oc15 kV15 dc15 pm15 cd15 ct15 : Value}
    {f16 : Addr} {od16 an16 : Option Addr} {sl16 : Array (Option Value)} {oc16 kV16 dc16 pm16 cd16 ct16 : Value}
    {f17 : Addr} {od17 an17 : Option Addr} {sl17 : Array (Option Value)} {oc17 kV17 dc17 pm17 cd17 ct17 : Value}
    {f18 : Addr} {od18 an18 : Option Addr} {sl18 : Array (Option Value)} {oc18 kV18 dc18 pm18 cd18 ct18 : Value}
    {f19 : Addr} {od19 an19 : Option Addr} {sl19 : Array (Option Value)} {oc19 kV19 dc19 pm19 cd19 ct19 : Value}
    {f20 : Addr} {od20 an20 : Option Addr} {sl20 : Array (Option Value)} {oc20 kV20 dc20 pm20 cd20 ct20 : Value}
    {f21 : Addr} {od21 an21 : Option Addr} {sl21 : Array (Option Value)} {oc21 kV21 dc21 pm21 cd21 ct21 : Value}
    {f22 : Addr} {od22 an22 : Option Addr} {sl22 : Array (Option Value)} {oc22 kV22 dc22 pm22 cd22 ct22 : Value}
    {f23 : Addr} {od23 an23 : Option Addr} {sl23 : Array (Option Value)} {oc23 kV23 dc23 pm23 cd23 ct23 : Value}
    {f24 : Addr} {od24 an24 : Option Addr} {sl24 : Array (Option Value)} {oc24 kV24 dc24 pm24 cd24 ct24 : Value}
    {f25 : Addr} {od25 an25 : Option Addr} {sl25 : Array (Option Value)} {oc25 kV25 dc25 pm25 cd25 ct25 : Value}
    {f26 : Addr} {od26 an26 : Option Addr} {sl26 : Array (Option Value)} {oc26 kV26 dc26 pm26 cd26 ct26 : Value}
    {f27 : Addr} {od27 an27 : Option Addr} {sl27 : Array (Option Value)} {oc27 kV27 dc27 pm27 cd27 ct27 : Value}
    (a0 : PySem.W.nsIn K mainGlobals "_law_state" = some (some (.ref f0)))
    (l0 : K.lookup f0 = some ⟨oc0, od0, .func (PySem.W.fnOf "_law_state" "_law_state" (defArgs s__law_state) (defBody s__law_state) (defScope s__law_state) .none kV0 dc0 pm0 an0 cd0 ct0), sl0⟩) (c0 : PySem.W.codeIn K cd0 "_law_state" = true) (k0 : PySem.W.keepIn K (.ref f0) = true)
    (a1 : PySem.W.nsIn K mainGlobals "_law_draw" = some (some (.ref f1)))
    (l1 : K.lookup f1 = some ⟨oc1, od1, .func (PySem.W.fnOf "_law_draw" "_law_draw" (defArgs s__law_draw) (defBody s__law_draw) (defScope s__law_draw) .none kV1 dc1 pm1 an1 cd1 ct1), sl1⟩) (c1 : PySem.W.codeIn K cd1 "_law_draw" = true) (k1 : PySem.W.keepIn K (.ref f1) = true)
    (a2 : PySem.W.nsIn K mainGlobals "_law_name" = some (some (.ref f2)))
    (l2 : K.lookup f2 = some ⟨oc2, od2, .func (PySem.W.fnOf "_law_name" "_law_name" (defArgs s__law_name) (defBody s__law_name) (defScope s__law_name) .none kV2 dc2 pm2 an2 cd2 ct2), sl2⟩) (c2 : PySem.W.codeIn K cd2 "_law_name" = true) (k2 : PySem.W.keepIn K (.ref f2) = true)
    (a3 : PySem.W.nsIn K mainGlobals "_law_names" = some (some (.ref f3)))
    (l3 : K.lookup f3 = some ⟨oc3, od3, .func (PySem.W.fnOf "_law_names" "_law_names" (defArgs s__law_names) (defBody s__law_names) (defScope s__law_names) .none kV3 dc3 pm3 an3 cd3 ct3), sl3⟩) (c3 : PySem.W.codeIn K cd3 "_law_names" = true) (k3 : PySem.W.keepIn K (.ref f3) = true)
    (a4 : PySem.W.nsIn K mainGlobals "_law_edge" = some (some (.ref f4)))
    (l4 : K.lookup f4 = some ⟨oc4, od4, .func (PySem.W.fnOf "_law_edge" "_law_edge" (defArgs s__law_edge) (defBody s__law_edge) (defScope s__law_edge) .none kV4 dc4 pm4 an4 cd4 ct4), sl4⟩) (c4 : PySem.W.codeIn K cd4 "_law_edge" = true) (k4 : PySem.W.keepIn K (.ref f4) = true)
    (a5 : PySem.W.nsIn K mainGlobals "_law_table" = some (some (.ref f5)))
    (l5 : K.lookup f5 = some ⟨oc5, od5, .func (PySem.W.fnOf "_law_table" "_law_table" (defArgs s__law_table) (defBody s__law_table) (defScope s__law_table) .none kV5 dc5 pm5 an5 cd5 ct5), sl5⟩) (c5 : PySem.W.codeIn K cd5 "_law_table" = true) (k5 : PySem.W.keepIn K (.ref f5) = true)
    (a6 : PySem.W.nsIn K mainGlobals "_law_action" = some (some (.ref f6)))
    (l6 : K.lookup f6 = some ⟨oc6, od6, .func (PySem.W.fnOf "_law_action" "_law_action" (defArgs s__law_action) (defBody s__law_action) (defScope s__law_action) .none kV6 dc6 pm6 an6 cd6 ct6), sl6⟩) (c6 : PySem.W.codeIn K cd6 "_law_action" = true) (k6 : PySem.W.keepIn K (.ref f6) = true)
    (a7 : PySem.W.nsIn K mainGlobals "_law_run" = some (some (.ref f7)))
    (l7 : K.lookup f7 = some ⟨oc7, od7, .func (PySem.W.fnOf "_law_run" "_law_run" (defArgs s__law_run) (defBody s__law_run) (defScope s__law_run) .none kV7 dc7 pm7 an7 cd7 ct7), sl7⟩) (c7 : PySem.W.codeIn K cd7 "_law_run" = true) (k7 : PySem.W.keepIn K (.ref f7) = true)
    (a8 : PySem.W.nsIn K mainGlobals "_law_paper" = some (some (.ref f8)))
    (l8 : K.lookup f8 = some ⟨oc8, od8, .func (PySem.W.fnOf "_law_paper" "_law_paper" (defArgs s__law_paper) (defBody s__law_paper) (defScope s__law_paper) .none kV8 dc8 pm8 an8 cd8 ct8), sl8⟩) (c8 : PySem.W.codeIn K cd8 "_law_paper" = true) (k8 : PySem.W.keepIn K (.ref f8) = true)
    (a9 : PySem.W.nsIn K mainGlobals "next_state" = some (some (.ref f9)))
    (l9 : K.lookup f9 = some ⟨oc9, od9, .func (PySem.W.fnOf "next_state" "next_state" (defArgs s_next_state) (defBody s_next_state) (defScope s_next_state) .none kV9 dc9 pm9 an9 cd9 ct9), sl9⟩) (c9 : PySem.W.codeIn K cd9 "next_state" = true) (k9 : PySem.W.keepIn K (.ref f9) = true)
    (a10 : PySem.W.nsIn K mainGlobals "walk" = some (some (.ref f10)))
    (l10 : K.lookup f10 = some ⟨oc10, od10, .func (PySem.W.fnOf "walk" "walk" (defArgs s_walk) (defBody s_walk) (defScope s_walk) .none kV10 dc10 pm10 an10 cd10 ct10), sl10⟩) (c10 : PySem.W.codeIn K cd10 "walk" = true) (k10 : PySem.W.keepIn K (.ref f10) = true)
    (a11 : PySem.W.nsIn K mainGlobals "takes_part" = some (some (.ref f11)))
    (l11 : K.lookup f11 = some ⟨oc11, od11, .func (PySem.W.fnOf "takes_part" "takes_part" (defArgs s_takes_part) (defBody s_takes_part) (defScope s_takes_part) .none kV11 dc11 pm11 an11 cd11 ct11), sl11⟩) (c11 : PySem.W.codeIn K cd11 "takes_part" = true) (k11 : PySem.W.keepIn K (.ref f11) = true)
    (a12 : PySem.W.nsIn K mainGlobals "view" = some (some (.ref f12)))
    (l12 : K.lookup f12 = some ⟨oc12, od12, .func (PySem.W.fnOf "view" "view" (defArgs s_view) (defBody s_view) (defScope s_view) .none kV12 dc12 pm12 an12 cd12 ct12), sl12⟩) (c12 : PySem.W.codeIn K cd12 "view" = true) (k12 : PySem.W.keepIn K (.ref f12) = true)
    (a13 : PySem.W.nsIn K mainGlobals "_could_do" = some (some (.ref f13)))
    (l13 : K.lookup f13 = some ⟨oc13, od13, .func (PySem.W.fnOf "_could_do" "_could_do" (defArgs s__could_do) (defBody s__could_do) (defScope s__could_do) .none kV13 dc13 pm13 an13 cd13 ct13), sl13⟩) (c13 : PySem.W.codeIn K cd13 "_could_do" = true) (k13 : PySem.W.keepIn K (.ref f13) = true)
    (a14 : PySem.W.nsIn K mainGlobals "_shows_unready" = some (some (.ref f14)))
    (l14 : K.lookup f14 = some ⟨oc14, od14, .func (PySem.W.fnOf "_shows_unready" "_shows_unready" (defArgs s__shows_unready) (defBody s__shows_unready) (defScope s__shows_unready) .none kV14 dc14 pm14 an14 cd14 ct14), sl14⟩) (c14 : PySem.W.codeIn K cd14 "_shows_unready" = true) (k14 : PySem.W.keepIn K (.ref f14) = true)
    (a15 : PySem.W.nsIn K mainGlobals "_shows_stray" = some (some (.ref f15)))
    (l15 : K.lookup f15 = some ⟨oc15, od15, .func (PySem.W.fnOf "_shows_stray" "_shows_stray" (defArgs s__shows_stray) (defBody s__shows_stray) (defScope s__shows_stray) .none kV15 dc15 pm15 an15 cd15 ct15), sl15⟩) (c15 : PySem.W.codeIn K cd15 "_shows_stray" = true) (k15 : PySem.W.keepIn K (.ref f15) = true)
    (a16 : PySem.W.nsIn K mainGlobals "senders_at" = some (some (.ref f16)))
    (l16 : K.lookup f16 = some ⟨oc16, od16, .func (PySem.W.fnOf "senders_at" "senders_at" (defArgs s_senders_at) (defBody s_senders_at) (defScope s_senders_at) .none kV16 dc16 pm16 an16 cd16 ct16), sl16⟩) (c16 : PySem.W.codeIn K cd16 "senders_at" = true) (k16 : PySem.W.keepIn K (.ref f16) = true)
    (a17 : PySem.W.nsIn K mainGlobals "_could_rest" = some (some (.ref f17)))
    (l17 : K.lookup f17 = some ⟨oc17, od17, .func (PySem.W.fnOf "_could_rest" "_could_rest" (defArgs s__could_rest) (defBody s__could_rest) (defScope s__could_rest) .none kV17 dc17 pm17 an17 cd17 ct17), sl17⟩) (c17 : PySem.W.codeIn K cd17 "_could_rest" = true) (k17 : PySem.W.keepIn K (.ref f17) = true)
    (a18 : PySem.W.nsIn K mainGlobals "_shows_idle" = some (some (.ref f18)))
    (l18 : K.lookup f18 = some ⟨oc18, od18, .func (PySem.W.fnOf "_shows_idle" "_shows_idle" (defArgs s__shows_idle) (defBody s__shows_idle) (defScope s__shows_idle) .none kV18 dc18 pm18 an18 cd18 ct18), sl18⟩) (c18 : PySem.W.codeIn K cd18 "_shows_idle" = true) (k18 : PySem.W.keepIn K (.ref f18) = true)
    (a19 : PySem.W.nsIn K mainGlobals "judge" = some (some (.ref f19)))
    (l19 : K.lookup f19 = some ⟨oc19, od19, .func (PySem.W.fnOf "judge" "judge" (defArgs s_judge) (defBody s_judge) (defScope s_judge) .none kV19 dc19 pm19 an19 cd19 ct19), sl19⟩) (c19 : PySem.W.codeIn K cd19 "judge" = true) (k19 : PySem.W.keepIn K (.ref f19) = true)
    (a20 : PySem.W.nsIn K mainGlobals "_law_step" = some (some (.ref f20)))
    (l20 : K.lookup f20 = some ⟨oc20, od20, .func (PySem.W.fnOf "_law_step" "_law_step" (defArgs s__law_step) (defBody s__law_step) (defScope s__law_step) .none kV20 dc20 pm20 an20 cd20 ct20), sl20⟩) (c20 : PySem.W.codeIn K cd20 "_law_step" = true) (k20 : PySem.W.keepIn K (.ref f20) = true)
    (a21 : PySem.W.nsIn K mainGlobals "_law_walk" = some (some (.ref f21)))
    (l21 : K.lookup f21 = some ⟨oc21, od21, .func (PySem.W.fnOf "_law_walk" "_law_walk" (defArgs s__law_walk) (defBody s__law_walk) (defScope s__law_walk) .none kV21 dc21 pm21 an21 cd21 ct21), sl21⟩) (c21 : PySem.W.codeIn K cd21 "_law_walk" = true) (k21 : PySem.W.keepIn K (.ref f21) = true)
    (a22 : PySem.W.nsIn K mainGlobals "_law_parties" = some (some (.ref f22)))
    (l22 : K.lookup f22 = some ⟨oc22, od22, .func (PySem.W.fnOf "_law_parties" "_law_parties" (defArgs s__law_parties) (defBody s__law_parties) (defScope s__law_parties) .none kV22 dc22 pm22 an22 cd22 ct22), sl22⟩) (c22 : PySem.W.codeIn K cd22 "_law_parties" = true) (k22 : PySem.W.keepIn K (.ref f22) = true)
    (a23 : PySem.W.nsIn K mainGlobals "_law_view" = some (some (.ref f23)))
    (l23 : K.lookup f23 = some ⟨oc23, od23, .func (PySem.W.fnOf "_law_view" "_law_view" (defArgs s__law_view) (defBody s__law_view) (defScope s__law_view) .none kV23 dc23 pm23 an23 cd23 ct23), sl23⟩) (c23 : PySem.W.codeIn K cd23 "_law_view" = true) (k23 : PySem.W.keepIn K (.ref f23) = true)
    (a24 : PySem.W.nsIn K mainGlobals "_law_same_view" = some (some (.ref f24)))
    (l24 : K.lookup f24 = some ⟨oc24, od24, .func (PySem.W.fnOf "_law_same_view" "_law_same_view" (defArgs s__law_same_view) (defBody s__law_same_view) (defScope s__law_same_view) .none kV24 dc24 pm24 an24 cd24 ct24), sl24⟩) (c24 : PySem.W.codeIn K cd24 "_law_same_view" = true) (k24 : PySem.W.keepIn K (.ref f24) = true)
    (a25 : PySem.W.nsIn K mainGlobals "_law_goes" = some (some (.ref f25)))
    (l25 : K.lookup f25 = some ⟨oc25, od25, .func (PySem.W.fnOf "_law_goes" "_law_goes" (defArgs s__law_goes) (defBody s__law_goes) (defScope s__law_goes) .none kV25 dc25 pm25 an25 cd25 ct25), sl25⟩) (c25 : PySem.W.codeIn K cd25 "_law_goes" = true) (k25 : PySem.W.keepIn K (.ref f25) = true)
    (a26 : PySem.W.nsIn K mainGlobals "_law_holds" = some (some (.ref f26)))
    (l26 : K.lookup f26 = some ⟨oc26, od26, .func (PySem.W.fnOf "_law_holds" "_law_holds" (defArgs s__law_holds) (defBody s__law_holds) (defScope s__law_holds) .none kV26 dc26 pm26 an26 cd26 ct26), sl26⟩) (c26 : PySem.W.codeIn K cd26 "_law_holds" = true) (k26 : PySem.W.keepIn K (.ref f26) = true)
    (a27 : PySem.W.nsIn K mainGlobals "law" = some (some (.ref f27)))
    (l27 : K.lookup f27 = some ⟨oc27, od27, .func (PySem.W.fnOf "law" "law" (defArgs s_law) (defBody s_law) (defScope s_law) .none kV27 dc27 pm27 an27 cd27 ct27), sl27⟩) (c27 : PySem.W.codeIn K cd27 "law" = true) (k27 : PySem.W.keepIn K (.ref f27) = true)
    (z0 : PySem.W.nsIn K mainGlobals "all" = some none)
    (z1 : PySem.W.nsIn K mainGlobals "bool" = some none)
    (z2 : PySem.W.nsIn K mainGlobals "int" = some none)
    (z3 : PySem.W.nsIn K mainGlobals "isinstance" = some none)
    (z4 : PySem.W.nsIn K mainGlobals "len" = some none)
    (z5 : PySem.W.nsIn K mainGlobals "list" = some none)
    (z6 : PySem.W.nsIn K mainGlobals "range" = some none)
    (z7 : PySem.W.nsIn K mainGlobals "set" = some none)
    (z8 : PySem.W.nsIn K mainGlobals "sorted" = some none)
    (z9 : PySem.W.nsIn K mainGlobals "str" = some none)
    (z10 : PySem.W.nsIn K mainGlobals "tuple" = some none) :
    ∃ fd : FuncData, (∀ (s : Shared) (v : Value), BindsTo s fd ⟨[v], []⟩ [("script", v)]) ∧ ∀ (P : Program) (w : World) (base : Heap), FnOk P w K mg base CX0 7 fa fd ["script"] (spA K F_law) := by
  have e := hfa.symm.trans (PySem.W.mg_of X Gn a27)
  cases e
  have F0 := fun_mk (st := s__law_state) l0 c0 k0
  have F1 := fun_mk (st := s__law_draw) l1 c1 k1
  have F2 := fun_mk (st := s__law_name) l2 c2 k2
  have F3 := fun_mk (st := s__law_names) l3 c3 k3
  have F4 := fun_mk (st := s__law_edge) l4 c4 k4
  have F5 := fun_mk (st := s__law_table) l5 c5 k5
  have F6 := fun_mk (st := s__law_action) l6 c6 k6
  have F7 := fun_mk (st := s__law_run) l7 c7 k7
  have F8 := fun_mk (st := s__law_paper) l8 c8 k8
  have F9 := fun_mk (st := s_next_state) l9 c9 k9
  have F10 := fun_mk (st := s_walk) l10 c10 k10
  have F11 := fun_mk (st := s_takes_part) l11 c11 k11
  have F12 := fun_mk (st := s_view) l12 c12 k12
  have F13 := fun_mk (st := s__could_do) l13 c13 k13
  have F14 := fun_mk (st := s__shows_unready) l14 c14 k14
  have F15 := fun_mk (st := s__shows_stray) l15 c15 k15
  have F16 := fun_mk (st := s_senders_at) l16 c16 k16
  have F17 := fun_mk (st := s__could_rest) l17 c17 k17
  have F18 := fun_mk (st := s__shows_idle) l18 c18 k18
  have F19 := fun_mk (st := s_judge) l19 c19 k19
  have F20 := fun_mk (st := s__law_step) l20 c20 k20
  have F21 := fun_mk (st := s__law_walk) l21 c21 k21
  have F22 := fun_mk (st := s__law_parties) l22 c22 k22
  have F23 := fun_mk (st := s__law_view) l23 c23 k23
  have F24 := fun_mk (st := s__law_same_view) l24 c24 k24
  have F25 := fun_mk (st := s__law_goes) l25 c25 k25
  have F26 := fun_mk (st := s__law_holds) l26 c26 k26
  have F27 := fun_mk (st := s_law) l27 c27 k27
  let T : Txt K mg := { m_all := PySem.W.mg_none_of X Gn z0, m_bool := PySem.W.mg_none_of X Gn z1, m_int := PySem.W.mg_none_of X Gn z2, m_isinstance := PySem.W.mg_none_of X Gn z3, m_len := PySem.W.mg_none_of X Gn z4, m_list := PySem.W.mg_none_of X Gn z5, m_range := PySem.W.mg_none_of X Gn z6, m_set := PySem.W.mg_none_of X Gn z7, m_sorted := PySem.W.mg_none_of X Gn z8, m_str := PySem.W.mg_none_of X Gn z9, m_tuple := PySem.W.mg_none_of X Gn z10, f__law_state := f0, fd__law_state := _, g__law_state := PySem.W.mg_of X Gn a0, F__law_state := F0, b__law_state := F0.binds (ps := ["script"]) fun _ _ _ _ _ _ us hl => (match us, hl with | [_], _ => rfl), f__law_draw := f1, fd__law_draw := _, g__law_draw := PySem.W.mg_of X Gn a1, F__law_draw := F1, b__law_draw := F1.binds (ps := ["state", "limit"]) fun _ _ _ _ _ _ us hl => (match us, hl with | [_, _], _ => rfl), f__law_name := f2, fd__law_name := _, g__law_name := PySem.W.mg_of X Gn a2, F__law_name := F2, b__law_name := F2.binds (ps := ["state"]) fun _ _ _ _ _ _ us hl => (match us, hl with | [_], _ => rfl), f__law_names := f3, fd__law_names := _, g__law_names := PySem.W.mg_of X Gn a3, F__law_names := F3, b__law_names := F3.binds (ps := ["state", "count", "taken"]) fun _ _ _ _ _ _ us hl => (match us, hl with | [_, _, _], _ => rfl), f__law_edge := f4, fd__law_edge := _, g__law_edge := PySem.W.mg_of X Gn a4, F__law_edge := F4, b__law_edge := F4.binds (ps := ["state", "row", "parties", "labels", "goal"]) fun _ _ _ _ _ _ us hl => (match us, hl with | [_, _, _, _, _], _ => rfl), f__law_table := f5, fd__law_table := _, g__law_table := PySem.W.mg_of X Gn a5, F__law_table := F5, b__law_table := F5.binds (ps := ["state", "parties", "labels", "size"]) fun _ _ _ _ _ _ us hl => (match us, hl with | [_, _, _, _], _ => rfl), f__law_action := f6, fd__law_action := _, g__law_action := PySem.W.mg_of X Gn a6, F__law_action := F6, b__law_action := F6.binds (ps := ["state", "parties", "labels"]) fun _ _ _ _ _ _ us hl => (match us, hl with | [_, _, _], _ => rfl), f__law_run := f7, fd__law_run := _, g__law_run := PySem.W.mg_of X Gn a7, F__law_run := F7, b__law_run := F7.binds (ps := ["state", "table", "parties", "labels"]) fun _ _ _ _ _ _ us hl => (match us, hl with | [_, _, _, _], _ => rfl), f__law_paper := f8, fd__law_paper := _, g__law_paper := PySem.W.mg_of X Gn a8, F__law_paper := F8, b__law_paper := F8.binds (ps := ["state", "table", "parties", "labels"]) fun _ _ _ _ _ _ us hl => (match us, hl with | [_, _, _, _], _ => rfl), f_next_state := f9, fd_next_state := _, g_next_state := PySem.W.mg_of X Gn a9, F_next_state := F9, b_next_state := F9.binds (ps := ["table", "state", "action"]) fun _ _ _ _ _ _ us hl => (match us, hl with | [_, _, _], _ => rfl), f_walk := f10, fd_walk := _, g_walk := PySem.W.mg_of X Gn a10, F_walk := F10, b_walk := F10.binds (ps := ["table", "actions"]) fun _ _ _ _ _ _ us hl => (match us, hl with | [_, _], _ => rfl), f_takes_part := f11, fd_takes_part := _, g_takes_part := PySem.W.mg_of X Gn a11, F_takes_part := F11, b_takes_part := F11.binds (ps := ["party", "action"]) fun _ _ _ _ _ _ us hl => (match us, hl with | [_, _], _ => rfl), f_view := f12, fd_view := _, g_view := PySem.W.mg_of X Gn a12, F_view := F12, b_view := F12.binds (ps := ["actions", "party"]) fun _ _ _ _ _ _ us hl => (match us, hl with | [_, _], _ => rfl), f__could_do := f13, fd__could_do := _, g__could_do := PySem.W.mg_of X Gn a13, F__could_do := F13, b__could_do := F13.binds (ps := ["table", "run", "action", "party", "other"]) fun _ _ _ _ _ _ us hl => (match us, hl with | [_, _, _, _, _], _ => rfl), f__shows_unready := f14, fd__shows_unready := _, g__shows_unready := PySem.W.mg_of X Gn a14, F__shows_unready := F14, b__shows_unready := F14.binds (ps := ["table", "run", "action", "other"]) fun _ _ _ _ _ _ us hl => (match us, hl with | [_, _, _, _], _ => rfl), f__shows_stray := f15, fd__shows_stray := _, g__shows_stray := PySem.W.mg_of X Gn a15, F__shows_stray := F15, b__shows_stray := F15.binds (ps := ["table", "run", "action", "first", "second"]) fun _ _ _ _ _ _ us hl => (match us, hl with | [_, _, _, _, _], _ => rfl), f_senders_at := f16, fd_senders_at := _, g_senders_at := PySem.W.mg_of X Gn a16, F_senders_at := F16, b_senders_at := F16.binds (ps := ["table", "state"]) fun _ _ _ _ _ _ us hl => (match us, hl with | [_, _], _ => rfl), f__could_rest := f17, fd__could_rest := _, g__could_rest := PySem.W.mg_of X Gn a17, F__could_rest := F17, b__could_rest := F17.binds (ps := ["table", "run", "party", "other"]) fun _ _ _ _ _ _ us hl => (match us, hl with | [_, _, _, _], _ => rfl), f__shows_idle := f18, fd__shows_idle := _, g__shows_idle := PySem.W.mg_of X Gn a18, F__shows_idle := F18, b__shows_idle := F18.binds (ps := ["table", "run", "others"]) fun _ _ _ _ _ _ us hl => (match us, hl with | [_, _, _], _ => rfl), f_judge := f19, fd_judge := _, g_judge := PySem.W.mg_of X Gn a19, F_judge := F19, b_judge := F19.binds (ps := ["table", "certificate"]) fun _ _ _ _ _ _ us hl => (match us, hl with | [_, _], _ => rfl), f__law_step := f20, fd__law_step := _, g__law_step := PySem.W.mg_of X Gn a20, F__law_step := F20, b__law_step := F20.binds (ps := ["table", "state", "action"]) fun _ _ _ _ _ _ us hl => (match us, hl with | [_, _, _], _ => rfl), f__law_walk := f21, fd__law_walk := _, g__law_walk := PySem.W.mg_of X Gn a21, F__law_walk := F21, b__law_walk := F21.binds (ps := ["table", "actions"]) fun _ _ _ _ _ _ us hl => (match us, hl with | [_, _], _ => rfl), f__law_parties := f22, fd__law_parties := _, g__law_parties := PySem.W.mg_of X Gn a22, F__law_parties := F22, b__law_parties := F22.binds (ps := ["table"]) fun _ _ _ _ _ _ us hl => (match us, hl with | [_], _ => rfl), f__law_view := f23, fd__law_view := _, g__law_view := PySem.W.mg_of X Gn a23, F__law_view := F23, b__law_view := F23.binds (ps := ["actions", "party"]) fun _ _ _ _ _ _ us hl => (match us, hl with | [_, _], _ => rfl), f__law_same_view := f24, fd__law_same_view := _, g__law_same_view := PySem.W.mg_of X Gn a24, F__law_same_view := F24, b__law_same_view := F24.binds (ps := ["one", "other", "party"]) fun _ _ _ _ _ _ us hl => (match us, hl with | [_, _, _], _ => rfl), f__law_goes := f25, fd__law_goes := _, g__law_goes := PySem.W.mg_of X Gn a25, F__law_goes := F25, b__law_goes := F25.binds (ps := ["table", "run", "action"]) fun _ _ _ _ _ _ us hl => (match us, hl with | [_, _, _], _ => rfl), f__law_holds := f26, fd__law_holds := _, g__law_holds := PySem.W.mg_of X Gn a26, F__law_holds := F26, b__law_holds := F26.binds (ps := ["table", "paper"]) fun _ _ _ _ _ _ us hl => (match us, hl with | [_, _], _ => rfl), f_law := fa, fd_law := _, g_law := PySem.W.mg_of X Gn a27, F_law := F27, b_law := F27.binds (ps := ["script"]) fun _ _ _ _ _ _ us hl => (match us, hl with | [_], _ => rfl) }
  exact ⟨_, fun s v => .of_eq rfl, fun P w base => all_ok T⟩
end

end K23
open PySem PySem.W PyProof.Rows
set_option maxHeartbeats 0 in
theorem PySem.Challenge.cw_pactloom_k23_judging_papers_holds : PySem.Challenge.rw_pactloom_k23_judging_papers.Holds := by
  w_on; o_law; k_head; (case hw => w_witness2)
  k_fill
  refine L2.walk_of (l := PySem.Challenge.rw_pactloom_k23_judging_papers) (n := 63) (k := 7) (x := "script") (CX := fun _ => L2.CX0) (sp := fun w => Ab.spA _ Ab.F_law) rfl (by decide) rfl ⟨rfl, by decide, by decide⟩ (fun w h Y => PySem.W.kIn_of Y) ?F (fun _ H a ns hl hO hS => Ab.law_start hl hS) (fun _ _ _ _ _ h => h)
  case F =>
    intro w mg fa h KX G hmg
    refine' Ab.fd_all (K23.all_mk KX G hmg ?a0 ?l0 ?c0 ?k0 ?a1 ?l1 ?c1 ?k1 ?a2 ?l2 ?c2 ?k2 ?a3 ?l3 ?c3 ?k3 ?a4 ?l4 ?c4 ?k4 ?a5 ?l5 ?c5 ?k5 ?a6 ?l6 ?c6 ?k6 ?a7 ?l7 ?c7 ?k7 ?a8 ?l8 ?c8 ?k8 ?a9 ?l9 ?c9 ?k9 ?a10 ?l10 ?c10 ?k10 ?a11 ?l11 ?c11 ?k11 ?a12 ?l12 ?c12 ?k12 ?a13 ?l13 ?c13 ?k13 ?a14 ?l14 ?c14 ?k14 ?a15 ?l15 ?c15 ?k15 ?a16 ?l16 ?c16 ?k16 ?a17 ?l17 ?c17 ?k17 ?a18 ?l18 ?c18 ?k18 ?a19 ?l19 ?c19 ?k19 ?a20 ?l20 ?c20 ?k20 ?a21 ?l21 ?c21 ?k21 ?a22 ?l22 ?c22 ?k22 ?a23 ?l23 ?c23 ?k23 ?a24 ?l24 ?c24 ?k24 ?a25 ?l25 ?c25 ?k25 ?a26 ?l26 ?c26 ?k26 ?a27 ?l27 ?c27 ?k27 ?z0 ?z1 ?z2 ?z3 ?z4 ?z5 ?z6 ?z7 ?z8 ?z9 ?z10)
    (case a0 => k_is)
    (case l0 => k_is)
    (case c0 => k_is)
    (case k0 => k_is)
    (case a1 => k_is)
    (case l1 => k_is)
    (case c1 => k_is)
    (case k1 => k_is)
    (case a2 => k_is)
    (case l2 => k_is)
    (case c2 => k_is)
    (case k2 => k_is)
    (case a3 => k_is)
    (case l3 => k_is)
    (case c3 => k_is)
    (case k3 => k_is)
    (case a4 => k_is)
    (case l4 => k_is)
    (case c4 => k_is)
    (case k4 => k_is)
    (case a5 => k_is)
    (case l5 => k_is)
    (case c5 => k_is)
    (case k5 => k_is)
    (case a6 => k_is)
    (case l6 => k_is)
    (case c6 => k_is)
    (case k6 => k_is)
    (case a7 => k_is)
    (case l7 => k_is)
    (case c7 => k_is)
    (case k7 => k_is)
    (case a8 => k_is)
    (case l8 => k_is)
    (case c8 => k_is)
    (case k8 => k_is)
    (case a9 => k_is)
    (case l9 => k_is)
    (case c9 => k_is)
    (case k9 => k_is)
    (case a10 => k_is)
    (case l10 => k_is)
    (case c10 => k_is)
    (case k10 => k_is)
    (case a11 => k_is)
    (case l11 => k_is)
    (case c11 => k_is)
    (case k11 => k_is)
    (case a12 => k_is)
    (case l12 => k_is)
    (case c12 => k_is)
    (case k12 => k_is)
    (case a13 => k_is)
    (case l13 => k_is)
    (case c13 => k_is)
    (case k13 => k_is)
    (case a14 => k_is)
    (case l14 => k_is)
    (case c14 => k_is)
    (case k14 => k_is)
    (case a15 => k_is)
    (case l15 => k_is)
    (case c15 => k_is)
    (case k15 => k_is)
    (case a16 => k_is)
    (case l16 => k_is)
    (case c16 => k_is)
    (case k16 => k_is)
    (case a17 => k_is)
    (case l17 => k_is)
    (case c17 => k_is)
    (case k17 => k_is)
    (case a18 => k_is)
    (case l18 => k_is)
    (case c18 => k_is)
    (case k18 => k_is)
    (case a19 => k_is)
    (case l19 => k_is)
    (case c19 => k_is)
    (case k19 => k_is)
    (case a20 => k_is)
    (case l20 => k_is)
    (case c20 => k_is)
    (case k20 => k_is)
    (case a21 => k_is)
    (case l21 => k_is)
    (case c21 => k_is)
    (case k21 => k_is)
    (case a22 => k_is)
    (case l22 => k_is)
    (case c22 => k_is)
    (case k22 => k_is)
    (case a23 => k_is)
    (case l23 => k_is)
    (case c23 => k_is)
    (case k23 => k_is)
    (case a24 => k_is)
    (case l24 => k_is)
    (case c24 => k_is)
    (case k24 => k_is)
    (case a25 => k_is)
    (case l25 => k_is)
    (case c25 => k_is)
    (case k25 => k_is)
    (case a26 => k_is)
    (case l26 => k_is)
    (case c26 => k_is)
    (case k26 => k_is)
    (case a27 => k_is)
    (case l27 => k_is)
    (case c27 => k_is)
    (case k27 => k_is)
    (case z0 => k_is)
    (case z1 => k_is)
    (case z2 => k_is)
    (case z3 => k_is)
    (case z4 => k_is)
    (case z5 => k_is)
    (case z6 => k_is)
    (case z7 => k_is)
    (case z8 => k_is)
    (case z9 => k_is)
    (case z10 => k_is)

