import PyProof.Rows.All
import Wide.All
import OpenK.AllK
import Wide.FinOn
import HandS.ForMost
import HandS.EndBits
import HandS.Walk
import HandS.Wide
import HandS.IsInst
import HandS.Conv
import HandS.SortRule
import HandS.TupSets
import KE.KDictSum
import KE.KUnpackStar
import PyProof.Rows.AssignMoreSeq
import KE.KDictPairs
import HandS.DictComp
import KE.SortKeyHeap
import HandS.SortKw
import KE.KDictWalk
import KE.KDictCopyH
import HandS.Deep
import KE.SortData
import HandS.AnyAll
import PyProof.SumAny
import HandS.Nested
import HandS.EndTab
import KE.DataMinMax
import HandS.TupLe
import HandS.TupLen
import KE.KEqDict
import HandS.Style
import KE.KNest
import KE.KNestM
import PySem.Challenge.RW_doneranges_k31_brought_up_by_pieces
set_option Elab.async false
set_option linter.all false
set_option maxRecDepth 100000
set_option autoImplicit false
namespace Rw
/-! rows (house, first, last), points (house, number), by the order of pairs -/
abbrev Row := Int × Int × Int
abbrev Pt := Int × Int
def lt2 (p q : Pt) : Prop := p.1 < q.1 ∨ (p.1 = q.1 ∧ p.2 < q.2)
def le2 (p q : Pt) : Prop := p.1 < q.1 ∨ (p.1 = q.1 ∧ p.2 ≤ q.2)
instance (p q : Pt) : Decidable (lt2 p q) := by unfold lt2; infer_instance
instance (p q : Pt) : Decidable (le2 p q) := by unfold le2; infer_instance
def inRow (r : Row) (p : Pt) : Prop := r.1 = p.1 ∧ r.2.1 ≤ p.2 ∧ p.2 ≤ r.2.2
instance (r : Row) (p : Pt) : Decidable (inRow r p) := by unfold inRow; infer_instance
def mem (rs : List Row) (p : Pt) : Prop := ∃ r ∈ rs, inRow r p
def before (r s : Row) : Prop := r.1 < s.1 ∨ (r.1 = s.1 ∧ r.2.2 + 1 < s.2.1)
structure Canon (rs : List Row) : Prop where
  ok : ∀ r ∈ rs, r.2.1 ≤ r.2.2
  ord : rs.Pairwise before
theorem Canon.nil : Canon [] := ⟨fun _ h => absurd h (by simp), .nil⟩
theorem Canon.tail {r : Row} {rs : List Row} (c : Canon (r :: rs)) : Canon rs :=
  ⟨fun s h => c.ok s (List.mem_cons_of_mem _ h), (List.pairwise_cons.mp c.ord).2⟩
theorem mem_cons {r : Row} {rs : List Row} {p : Pt} : mem (r :: rs) p ↔ inRow r p ∨ mem rs p := by
  unfold mem; simp
theorem mem_nil {p : Pt} : ¬ mem [] p := by unfold mem; simp
theorem mem_append {as bs : List Row} {p : Pt} : mem (as ++ bs) p ↔ mem as p ∨ mem bs p := by
  unfold mem
  constructor
  · rintro ⟨r, h, e⟩
    rcases List.mem_append.mp h with h | h
    · exact .inl ⟨r, h, e⟩
    · exact .inr ⟨r, h, e⟩
  · rintro (⟨r, h, e⟩ | ⟨r, h, e⟩)
    · exact ⟨r, List.mem_append_left _ h, e⟩
    · exact ⟨r, List.mem_append_right _ h, e⟩
/-- whatever is in a later row lies behind the first one, with a gap -/
theorem Canon.later {r : Row} {rs : List Row} (c : Canon (r :: rs)) {p : Pt} (h : mem rs p) : r.1 < p.1 ∨ (r.1 = p.1 ∧ r.2.2 + 1 < p.2) := by
  obtain ⟨s, hs, e1, e2, e3⟩ := h
  have b := (List.pairwise_cons.mp c.ord).1 s hs
  unfold before at b
  omega
theorem Canon.uniq : ∀ {xs ys : List Row}, Canon xs → Canon ys → (∀ p, mem xs p ↔ mem ys p) → xs = ys
  | [], [], _, _, _ => rfl
  | [], y :: ys, _, cy, h => by
    have o := cy.ok y List.mem_cons_self
    exact absurd ((h (y.1, y.2.1)).mpr (mem_cons.mpr (.inl ⟨rfl, Int.le_refl _, o⟩))) mem_nil
  | x :: xs, [], cx, _, h => by
    have o := cx.ok x List.mem_cons_self
    exact absurd ((h (x.1, x.2.1)).mp (mem_cons.mpr (.inl ⟨rfl, Int.le_refl _, o⟩))) mem_nil
  | x :: xs, y :: ys, cx, cy, h => by
    have ox := cx.ok x List.mem_cons_self
    have oy := cy.ok y List.mem_cons_self
    have a1 := mem_cons.mp ((h (x.1, x.2.1)).mp (mem_cons.mpr (.inl ⟨rfl, Int.le_refl _, ox⟩)))
    have a2 := mem_cons.mp ((h (y.1, y.2.1)).mpr (mem_cons.mpr (.inl ⟨rfl, Int.le_refl _, oy⟩)))
    have b1 : le2 (y.1, y.2.1) (x.1, x.2.1) := by
      unfold le2
      rcases a1 with ⟨e1, e2, e3⟩ | a1
      · simp only at e1 e2 e3 ⊢; omega
      · have z := cy.later a1; simp only at z ⊢; omega
    have b2 : le2 (x.1, x.2.1) (y.1, y.2.1) := by
      unfold le2
      rcases a2 with ⟨e1, e2, e3⟩ | a2
      · simp only at e1 e2 e3 ⊢; omega
      · have z := cx.later a2; simp only at z ⊢; omega
    unfold le2 at b1 b2
    simp only at b1 b2
    have eh : x.1 = y.1 := by omega
    have ea : x.2.1 = y.2.1 := by omega
    have c1 := mem_cons.mp ((h (x.1, x.2.2)).mp (mem_cons.mpr (.inl ⟨rfl, ox, Int.le_refl _⟩)))
    have c2 := mem_cons.mp ((h (y.1, y.2.2)).mpr (mem_cons.mpr (.inl ⟨rfl, oy, Int.le_refl _⟩)))
    have eb : x.2.2 = y.2.2 := by
      rcases Int.lt_trichotomy x.2.2 y.2.2 with z | z | z
      · -- (x.1, x.2.2 + 1) is in y, so in x's tail
        have d := mem_cons.mp ((h (x.1, x.2.2 + 1)).mpr (mem_cons.mpr (.inl ⟨eh.symm, by simp only; omega, by simp only; omega⟩)))
        rcases d with ⟨_, _, e3⟩ | d
        · simp only at e3; omega
        · have u := cx.later d; simp only at u; omega
      · exact z
      · have d := mem_cons.mp ((h (y.1, y.2.2 + 1)).mp (mem_cons.mpr (.inl ⟨eh, by simp only; omega, by simp only; omega⟩)))
        rcases d with ⟨_, _, e3⟩ | d
        · simp only at e3; omega
        · have u := cy.later d; simp only at u; omega
    have exy : x = y := by
      obtain ⟨x1, x2, x3⟩ := x
      obtain ⟨y1, y2, y3⟩ := y
      simp only at eh ea eb
      subst eh ea eb
      rfl
    subst exy
    congr 1
    refine Canon.uniq cx.tail cy.tail fun p => ?_
    constructor
    · intro m
      rcases mem_cons.mp ((h p).mp (mem_cons.mpr (.inr m))) with ⟨e1, e2, e3⟩ | d
      · have u := cx.later m; omega
      · exact d
    · intro m
      rcases mem_cons.mp ((h p).mpr (mem_cons.mpr (.inr m))) with ⟨e1, e2, e3⟩ | d
      · have u := cy.later m; omega
      · exact d
theorem Canon.snoc {rs : List Row} {r : Row} (c : Canon rs) (o : r.2.1 ≤ r.2.2) (h : ∀ s ∈ rs, before s r) : Canon (rs ++ [r]) := by
  refine ⟨fun s hs => ?_, List.pairwise_append.mpr ⟨c.ord, List.pairwise_singleton _ _, fun s hs t ht => ?_⟩⟩
  · rcases List.mem_append.mp hs with hs | hs
    · exact c.ok s hs
    · rw [List.mem_singleton.mp hs]; exact o
  · rw [List.mem_singleton.mp ht]; exact h s hs

/-! ### sums over weighted rows -/
abbrev WRow := Row × Int
def S (f : Row → Int) : List WRow → Int
  | [] => 0
  | (r, w) :: ws => w * f r + S f ws
theorem S_append (f : Row → Int) : ∀ (as bs : List WRow), S f (as ++ bs) = S f as + S f bs
  | [], bs => by simp [S]
  | (r, w) :: as, bs => by
    show w * f r + S f (as ++ bs) = w * f r + S f as + S f bs
    rw [S_append f as bs]; omega
theorem S_congr {f g : Row → Int} : ∀ {ws : List WRow}, (∀ x ∈ ws, f x.1 = g x.1) → S f ws = S g ws
  | [], _ => rfl
  | (r, w) :: ws, h => by
    show w * f r + S f ws = w * g r + S g ws
    rw [h (r, w) List.mem_cons_self, S_congr (ws := ws) fun x hx => h x (List.mem_cons_of_mem _ hx)]
theorem S_add (f g : Row → Int) : ∀ ws : List WRow, S (fun r => f r + g r) ws = S f ws + S g ws
  | [] => rfl
  | (r, w) :: ws => by
    show w * (f r + g r) + S (fun r => f r + g r) ws = (w * f r + S f ws) + (w * g r + S g ws)
    rw [S_add f g ws, Int.mul_add]; omega
theorem S_zero {f : Row → Int} : ∀ {ws : List WRow}, (∀ x ∈ ws, f x.1 = 0) → S f ws = 0
  | [], _ => rfl
  | (r, w) :: ws, h => by
    show w * f r + S f ws = 0
    rw [h (r, w) List.mem_cons_self, S_zero (ws := ws) fun x hx => h x (List.mem_cons_of_mem _ hx)]; omega
def ind (c : Prop) [Decidable c] : Int := if c then 1 else 0
theorem ind_pos {c : Prop} [Decidable c] (h : c) : ind c = 1 := if_pos h
theorem ind_neg {c : Prop} [Decidable c] (h : ¬ c) : ind c = 0 := if_neg h
theorem ind_or (c : Prop) [Decidable c] : (c ∧ ind c = 1) ∨ (¬ c ∧ ind c = 0) := by
  by_cases h : c
  · exact .inl ⟨h, ind_pos h⟩
  · exact .inr ⟨h, ind_neg h⟩
def fstP (r : Row) : Pt := (r.1, r.2.1)
def endP (r : Row) : Pt := (r.1, r.2.2 + 1)
/-- what weighs on a point -/
def cover (ws : List WRow) (p : Pt) : Int := S (fun r => ind (inRow r p)) ws
/-- the change at a point -/
def chg (ws : List WRow) (p : Pt) : Int := S (fun r => ind (fstP r = p) - ind (endP r = p)) ws
def Wok (ws : List WRow) : Prop := ∀ x ∈ ws, x.1.2.1 ≤ x.1.2.2
theorem cover_eq {ws : List WRow} (h : Wok ws) (p : Pt) : cover ws p = S (fun r => ind (le2 (fstP r) p) - ind (le2 (endP r) p)) ws := by
  refine S_congr fun x hx => ?_
  have o := h x hx
  obtain ⟨⟨rh, ra, rb⟩, w⟩ := x
  obtain ⟨ph, pn⟩ := p
  rcases ind_or (inRow (rh, ra, rb) (ph, pn)) with ⟨a, ea⟩ | ⟨a, ea⟩ <;> rcases ind_or (le2 (fstP (rh, ra, rb)) (ph, pn)) with ⟨b, eb⟩ | ⟨b, eb⟩ <;>
    rcases ind_or (le2 (endP (rh, ra, rb)) (ph, pn)) with ⟨c, ec⟩ | ⟨c, ec⟩ <;> rw [ea, eb, ec] <;> simp only [inRow, le2, fstP, endP] at a b c o <;> omega
/-- all points of change are among ks -/
def Has (ks : List Pt) (ws : List WRow) : Prop := ∀ x ∈ ws, fstP x.1 ∈ ks ∧ endP x.1 ∈ ks
/-- from a point to the next one of change -/
theorem cover_step {ws : List WRow} (o : Wok ws) {c k : Pt} (hlt : lt2 c k) (hn : ∀ x ∈ ws, (le2 (fstP x.1) c ∨ le2 k (fstP x.1)) ∧ (le2 (endP x.1) c ∨ le2 k (endP x.1))) :
    cover ws k = cover ws c + chg ws k := by
  rw [cover_eq o, cover_eq o, chg, ← S_add]
  refine S_congr fun x hx => ?_
  obtain ⟨a, b⟩ := hn x hx
  obtain ⟨⟨rh, ra, rb⟩, w⟩ := x
  obtain ⟨kh, kn⟩ := k
  obtain ⟨ch, cn⟩ := c
  simp only [lt2, le2, fstP, endP] at a b hlt
  rcases ind_or (le2 (fstP (rh, ra, rb)) (kh, kn)) with ⟨u1, e1⟩ | ⟨u1, e1⟩ <;> rcases ind_or (le2 (endP (rh, ra, rb)) (kh, kn)) with ⟨u2, e2⟩ | ⟨u2, e2⟩ <;>
    rcases ind_or (le2 (fstP (rh, ra, rb)) (ch, cn)) with ⟨u3, e3⟩ | ⟨u3, e3⟩ <;> rcases ind_or (le2 (endP (rh, ra, rb)) (ch, cn)) with ⟨u4, e4⟩ | ⟨u4, e4⟩ <;>
    rcases ind_or (fstP (rh, ra, rb) = (kh, kn)) with ⟨u5, e5⟩ | ⟨u5, e5⟩ <;> rcases ind_or (endP (rh, ra, rb) = (kh, kn)) with ⟨u6, e6⟩ | ⟨u6, e6⟩ <;>
    rw [e1, e2, e3, e4, e5, e6] <;> simp only [le2, fstP, endP, Prod.mk.injEq] at u1 u2 u3 u4 u5 u6 <;> omega
theorem cover_same {ws : List WRow} (o : Wok ws) {c p : Pt} (hle : le2 c p) (hn : ∀ x ∈ ws, (le2 (fstP x.1) c ∨ lt2 p (fstP x.1)) ∧ (le2 (endP x.1) c ∨ lt2 p (endP x.1))) :
    cover ws p = cover ws c := by
  rw [cover_eq o, cover_eq o]
  refine S_congr fun x hx => ?_
  obtain ⟨a, b⟩ := hn x hx
  obtain ⟨⟨rh, ra, rb⟩, w⟩ := x
  obtain ⟨kh, kn⟩ := p
  obtain ⟨ch, cn⟩ := c
  simp only [lt2, le2, fstP, endP] at a b hle
  rcases ind_or (le2 (fstP (rh, ra, rb)) (kh, kn)) with ⟨u1, e1⟩ | ⟨u1, e1⟩ <;> rcases ind_or (le2 (endP (rh, ra, rb)) (kh, kn)) with ⟨u2, e2⟩ | ⟨u2, e2⟩ <;>
    rcases ind_or (le2 (fstP (rh, ra, rb)) (ch, cn)) with ⟨u3, e3⟩ | ⟨u3, e3⟩ <;> rcases ind_or (le2 (endP (rh, ra, rb)) (ch, cn)) with ⟨u4, e4⟩ | ⟨u4, e4⟩ <;>
    rw [e1, e2, e3, e4] <;> simp only [le2, fstP, endP] at u1 u2 u3 u4 <;> omega
theorem cover_first {ws : List WRow} (o : Wok ws) {k : Pt} (hn : ∀ x ∈ ws, le2 k (fstP x.1) ∧ le2 k (endP x.1)) : cover ws k = chg ws k := by
  rw [cover_eq o, chg]
  refine S_congr fun x hx => ?_
  obtain ⟨a, b⟩ := hn x hx
  obtain ⟨⟨rh, ra, rb⟩, w⟩ := x
  obtain ⟨kh, kn⟩ := k
  simp only [le2, fstP, endP] at a b
  rcases ind_or (le2 (fstP (rh, ra, rb)) (kh, kn)) with ⟨u1, e1⟩ | ⟨u1, e1⟩ <;> rcases ind_or (le2 (endP (rh, ra, rb)) (kh, kn)) with ⟨u2, e2⟩ | ⟨u2, e2⟩ <;>
    rcases ind_or (fstP (rh, ra, rb) = (kh, kn)) with ⟨u5, e5⟩ | ⟨u5, e5⟩ <;> rcases ind_or (endP (rh, ra, rb) = (kh, kn)) with ⟨u6, e6⟩ | ⟨u6, e6⟩ <;>
    rw [e1, e2, e5, e6] <;> simp only [le2, fstP, endP, Prod.mk.injEq] at u1 u2 u5 u6 <;> omega
theorem cover_none {ws : List WRow} {p : Pt} (hn : ∀ x ∈ ws, ¬ inRow x.1 p) : cover ws p = 0 := S_zero fun x hx => ind_neg (hn x hx)
/-- something covers: its end lies behind, in the same house -/
theorem cover_pos {ws : List WRow} {p : Pt} (h : cover ws p ≠ 0) : ∃ x ∈ ws, inRow x.1 p := by
  by_cases e : ∃ x ∈ ws, inRow x.1 p
  · exact e
  · exact absurd (cover_none fun x hx q => e ⟨x, hx, q⟩) h

/-! ### the sweep -/
structure St where
  out : List Row
  total : Int
  start : Int
def stepM (ch : Pt → Int) (least : Int) (s : St) (k : Pt) : St :=
  if s.total < least ∧ least ≤ s.total + ch k then ⟨s.out, s.total + ch k, k.2⟩
  else if s.total + ch k < least ∧ least ≤ s.total then ⟨s.out ++ [(k.1, s.start, k.2 - 1)], s.total + ch k, s.start⟩
  else ⟨s.out, s.total + ch k, s.start⟩
/-- behind the point c of change: what is out, and what is open -/
structure At (ws : List WRow) (least : Int) (c : Pt) (s : St) : Prop where
  tot : s.total = cover ws c
  can : Canon s.out
  cl : s.total < least → (∀ r ∈ s.out, le2 (endP r) c) ∧ ∀ p, le2 p c → (mem s.out p ↔ least ≤ cover ws p)
  op : least ≤ s.total → s.start ≤ c.2 ∧ (∀ r ∈ s.out, lt2 (endP r) (c.1, s.start)) ∧ (∀ n, s.start ≤ n → n ≤ c.2 → least ≤ cover ws (c.1, n)) ∧
    ∀ p, lt2 p (c.1, s.start) → (mem s.out p ↔ least ≤ cover ws p)
theorem not_mem_of_end {rs : List Row} {c p : Pt} (h : ∀ r ∈ rs, le2 (endP r) c) (hp : le2 c p) : ¬ mem rs p := by
  rintro ⟨r, hr, e1, e2, e3⟩
  have a := h r hr
  unfold le2 endP at a
  unfold le2 at hp
  simp only at a
  omega
theorem At.step {ws : List WRow} {least : Int} (hl : 0 < least) (o : Wok ws) {c k : Pt} {s : St} (a : At ws least c s) (hlt : lt2 c k)
    (hn : ∀ x ∈ ws, (le2 (fstP x.1) c ∨ le2 k (fstP x.1)) ∧ (le2 (endP x.1) c ∨ le2 k (endP x.1))) : At ws least k (stepM (chg ws) least s k) := by
  have tk : s.total + chg ws k = cover ws k := by rw [a.tot, cover_step o hlt hn]
  have same : ∀ p, le2 c p → lt2 p k → cover ws p = cover ws c := fun p h1 h2 => by
    refine cover_same o h1 fun x hx => ?_
    obtain ⟨u, v⟩ := hn x hx
    unfold lt2 le2 at *
    exact ⟨by omega, by omega⟩
  unfold stepM
  rw [tk]
  by_cases h1 : s.total < least
  · obtain ⟨c1, c2⟩ := a.cl h1
    have hm : ∀ p, lt2 p k → (mem s.out p ↔ least ≤ cover ws p) := fun p hp => by
      by_cases hc : le2 p c
      · exact c2 p hc
      · have hc' : le2 c p := by unfold le2 at *; omega
        have nm := not_mem_of_end c1 hc'
        have e := same p hc' hp
        rw [e, ← a.tot]
        exact ⟨fun z => absurd z nm, fun z => absurd h1 (by omega)⟩
    by_cases h2 : least ≤ cover ws k
    · rw [if_pos ⟨h1, h2⟩]
      refine ⟨rfl, a.can, fun z => absurd z (by simp only; omega), fun _ => ⟨Int.le_refl _, fun r hr => ?_, fun n z1 z2 => ?_, fun p hp => hm p hp⟩⟩
      · have q := c1 r hr
        unfold le2 lt2 at *
        simp only at *
        omega
      · have : n = k.2 := by simp only at z1 z2; omega
        rw [this]; exact h2
    · rw [if_neg (fun z => h2 z.2), if_neg (fun z => absurd z.2 (by omega))]
      refine ⟨rfl, a.can, fun _ => ⟨fun r hr => ?_, fun p hp => ?_⟩, fun z => absurd z (by simp only; omega)⟩
      · have q := c1 r hr
        unfold le2 lt2 at *
        omega
      · by_cases hpk : lt2 p k
        · exact hm p hpk
        · have e : p = k := by
            obtain ⟨p1, p2⟩ := p
            obtain ⟨k1, k2⟩ := k
            unfold le2 at hp
            unfold lt2 at hpk
            simp only at hp hpk
            have e1 : p1 = k1 := by omega
            have e2 : p2 = k2 := by omega
            rw [e1, e2]
          subst e
          have hck : le2 c p := by unfold lt2 at hlt; unfold le2; omega
          exact ⟨fun z => absurd z (not_mem_of_end c1 hck), fun z => absurd z h2⟩
  · have h1' : least ≤ s.total := by omega
    obtain ⟨o1, o2, o3, o4⟩ := a.op h1'
    rw [if_neg (fun z => h1 z.1)]
    -- a row that covers c ends behind c in its house: k lies in the same house
    have hk1 : k.1 = c.1 := by
      obtain ⟨x, hx, i1, i2, i3⟩ := cover_pos (ws := ws) (p := c) (by rw [← a.tot]; omega)
      obtain ⟨_, v⟩ := hn x hx
      unfold le2 endP at v
      unfold lt2 at hlt
      simp only at v
      omega
    have hk2 : c.2 < k.2 := by unfold lt2 at hlt; omega
    have seg : ∀ n, s.start ≤ n → n < k.2 → least ≤ cover ws (c.1, n) := fun n z1 z2 => by
      by_cases hc : n ≤ c.2
      · exact o3 n z1 hc
      · rw [same (c.1, n) (.inr ⟨rfl, by simp only; omega⟩) (.inr ⟨hk1.symm, z2⟩), ← a.tot]
        exact h1'
    by_cases h2 : cover ws k < least
    · rw [if_pos ⟨h2, h1'⟩]
      refine ⟨rfl, a.can.snoc (by simp only; omega) fun r hr => ?_, fun _ => ⟨fun r hr => ?_, fun p hp => ?_⟩, fun z => absurd z (show ¬ least ≤ cover ws k by omega)⟩
      · have q := o2 r hr
        unfold lt2 endP at q
        unfold before
        simp only at q ⊢
        omega
      · rcases List.mem_append.mp hr with hr | hr
        · have q := o2 r hr
          unfold lt2 at q
          unfold le2
          simp only at q ⊢
          omega
        · rw [List.mem_singleton.mp hr]
          exact .inr ⟨rfl, show k.2 - 1 + 1 ≤ k.2 by omega⟩
      · rw [mem_append]
        by_cases hb : lt2 p (c.1, s.start)
        · rw [← o4 p hb]
          constructor
          · rintro (z | ⟨r, hr, i1, i2, i3⟩)
            · exact z
            · rw [List.mem_singleton.mp hr] at i1 i2 i3
              unfold lt2 at hb
              simp only at i1 i2 i3 hb
              omega
          · exact .inl
        · by_cases hpk : lt2 p k
          · have e : p.1 = c.1 := by
              unfold lt2 at hb hpk
              simp only at hb
              omega
            have z1 : s.start ≤ p.2 := by
              unfold lt2 at hb
              simp only at hb
              omega
            have z2 : p.2 < k.2 := by
              unfold lt2 at hpk
              omega
            have q := seg p.2 z1 z2
            rw [← e] at q
            refine ⟨fun _ => q, fun _ => .inr ⟨_, List.mem_singleton.mpr rfl, ?_, ?_, ?_⟩⟩
            · simp only; omega
            · exact z1
            · simp only; omega
          · have e : p = k := by
              obtain ⟨p1, p2⟩ := p
              obtain ⟨k1, k2⟩ := k
              unfold le2 at hp
              unfold lt2 at hpk
              simp only at hp hpk
              have e1 : p1 = k1 := by omega
              have e2 : p2 = k2 := by omega
              rw [e1, e2]
            subst e
            refine ⟨fun z => ?_, fun z => absurd z (by omega)⟩
            exfalso
            rcases z with ⟨r, hr, i1, i2, i3⟩ | ⟨r, hr, i1, i2, i3⟩
            · have q := o2 r hr
              unfold lt2 endP at q
              simp only at q
              omega
            · rw [List.mem_singleton.mp hr] at i1 i2 i3
              simp only at i1 i2 i3
              omega
    · rw [if_neg (fun z => h2 z.1)]
      refine ⟨rfl, a.can, fun z => absurd z (by simp only; omega), fun _ => ⟨by simp only; omega, ?_, fun n z1 z2 => ?_, ?_⟩⟩
      · rw [hk1]; exact o2
      · rw [hk1]
        by_cases hn2 : n < k.2
        · exact seg n z1 hn2
        · have : n = k.2 := by omega
          rw [this, ← hk1]
          show least ≤ cover ws k
          omega
      · rw [hk1]; exact o4
/-- the first point -/
theorem At.start {ws : List WRow} {least : Int} (hl : 0 < least) (o : Wok ws) {k : Pt} (z : Int) (hn : ∀ x ∈ ws, le2 k (fstP x.1) ∧ le2 k (endP x.1)) :
    At ws least k (stepM (chg ws) least ⟨[], 0, z⟩ k) := by
  have tk : (0 : Int) + chg ws k = cover ws k := by rw [cover_first o hn]; omega
  have zero : ∀ p, lt2 p k → cover ws p = 0 := fun p hp => cover_none fun x hx ⟨i1, i2, i3⟩ => by
    obtain ⟨u, _⟩ := hn x hx
    unfold le2 fstP at u
    unfold lt2 at hp
    simp only at u
    omega
  unfold stepM
  simp only
  rw [tk]
  by_cases h2 : least ≤ cover ws k
  · rw [if_pos ⟨hl, h2⟩]
    refine ⟨rfl, .nil, fun z => absurd z (by simp only; omega), fun _ => ⟨Int.le_refl _, fun r hr => absurd hr (by simp), fun n z1 z2 => ?_, fun p hp => ?_⟩⟩
    · have : n = k.2 := by simp only at z1 z2; omega
      rw [this]; exact h2
    · rw [zero p hp]
      exact ⟨fun z => absurd z mem_nil, fun z => absurd z (by omega)⟩
  · rw [if_neg (fun z => h2 z.2), if_neg (fun z => absurd z.2 (by omega))]
    refine ⟨rfl, .nil, fun _ => ⟨fun r hr => absurd hr (by simp), fun p hp => ?_⟩, fun z => absurd z (by simp only; omega)⟩
    by_cases hpk : lt2 p k
    · rw [zero p hpk]
      exact ⟨fun z => absurd z mem_nil, fun z => absurd z (by omega)⟩
    · have e : p = k := by
        obtain ⟨p1, p2⟩ := p
        obtain ⟨k1, k2⟩ := k
        unfold le2 at hp
        unfold lt2 at hpk
        simp only at hp hpk
        have e1 : p1 = k1 := by omega
        have e2 : p2 = k2 := by omega
        rw [e1, e2]
      subst e
      exact ⟨fun z => absurd z mem_nil, fun z => absurd z h2⟩
theorem le2_of_not {p q : Pt} (h : ¬ lt2 p q) : le2 q p := by unfold lt2 at h; unfold le2; omega
theorem At.done {ws : List WRow} {least : Int} (hl : 0 < least) (o : Wok ws) {c : Pt} {s : St} (a : At ws least c s) (hn : ∀ x ∈ ws, le2 (fstP x.1) c ∧ le2 (endP x.1) c) :
    Canon s.out ∧ ∀ p, mem s.out p ↔ least ≤ cover ws p := by
  have far : ∀ p, le2 c p → cover ws p = 0 := fun p hp => cover_none fun x hx ⟨i1, i2, i3⟩ => by
    obtain ⟨_, v⟩ := hn x hx
    unfold le2 endP at v
    unfold le2 at hp
    simp only at v
    omega
  have ht : s.total < least := by
    rw [a.tot, far c (by unfold le2; omega)]; exact hl
  obtain ⟨c1, c2⟩ := a.cl ht
  refine ⟨a.can, fun p => ?_⟩
  by_cases hp : le2 p c
  · exact c2 p hp
  · have hp' : le2 c p := by unfold le2 at *; omega
    rw [far p hp']
    exact ⟨fun z => absurd z (not_mem_of_end c1 hp'), fun z => absurd z (by omega)⟩
theorem sweep_from {ws : List WRow} {least : Int} (hl : 0 < least) (o : Wok ws) : ∀ (ks : List Pt) (c : Pt) (s : St), At ws least c s → (c :: ks).Pairwise lt2 →
    (∀ x ∈ ws, (le2 (fstP x.1) c ∨ fstP x.1 ∈ ks) ∧ (le2 (endP x.1) c ∨ endP x.1 ∈ ks)) →
    Canon (ks.foldl (stepM (chg ws) least) s).out ∧ ∀ p, mem (ks.foldl (stepM (chg ws) least) s).out p ↔ least ≤ cover ws p
  | [], c, s, a, _, h => a.done hl o fun x hx => by
    obtain ⟨u, v⟩ := h x hx
    exact ⟨u.resolve_right (by simp), v.resolve_right (by simp)⟩
  | k :: ks, c, s, a, hp, h => by
    have h1 := (List.pairwise_cons.mp hp).1 k List.mem_cons_self
    have h2 := (List.pairwise_cons.mp hp).2
    have h3 := (List.pairwise_cons.mp h2).1
    have key : ∀ q : Pt, (le2 q c ∨ q ∈ k :: ks) → (le2 q c ∨ le2 k q) := fun q z => by
      rcases z with z | z
      · exact .inl z
      · rcases List.mem_cons.mp z with e | z
        · subst e; exact .inr (by unfold le2; omega)
        · have w := h3 q z
          exact .inr (by unfold lt2 at w; unfold le2; omega)
    refine sweep_from hl o ks k _ (a.step hl o h1 fun x hx => ⟨key _ (h x hx).1, key _ (h x hx).2⟩) h2 fun x hx => ?_
    have key2 : ∀ q : Pt, (le2 q c ∨ q ∈ k :: ks) → (le2 q k ∨ q ∈ ks) := fun q z => by
      rcases z with z | z
      · exact .inl (by unfold lt2 at h1; unfold le2 at *; omega)
      · rcases List.mem_cons.mp z with e | z
        · subst e; exact .inl (by unfold le2; omega)
        · exact .inr z
    exact ⟨key2 _ (h x hx).1, key2 _ (h x hx).2⟩
/-- THE SWEEP: the fewest rows of what weighs least or more -/
theorem sweep {ws : List WRow} {least : Int} (hl : 0 < least) (o : Wok ws) {ks : List Pt} (hp : ks.Pairwise lt2) (h : Has ks ws) (z : Int) :
    Canon (ks.foldl (stepM (chg ws) least) ⟨[], 0, z⟩).out ∧ ∀ p, mem (ks.foldl (stepM (chg ws) least) ⟨[], 0, z⟩).out p ↔ least ≤ cover ws p := by
  cases ks with
  | nil =>
    have e : ws = [] := by
      cases ws with
      | nil => rfl
      | cons x xs => exact absurd (h x List.mem_cons_self).1 (by simp)
    subst e
    refine ⟨.nil, fun p => ⟨fun z => absurd z mem_nil, fun z => absurd z ?_⟩⟩
    show ¬ least ≤ 0
    omega
  | cons k ks =>
    have h3 := (List.pairwise_cons.mp hp).1
    have key : ∀ q : Pt, q ∈ k :: ks → le2 k q := fun q z => by
      rcases List.mem_cons.mp z with e | z
      · subst e; unfold le2; omega
      · have w := h3 q z
        unfold lt2 at w; unfold le2; omega
    refine sweep_from hl o ks k _ (At.start hl o z fun x hx => ⟨key _ (h x hx).1, key _ (h x hx).2⟩) hp fun x hx => ?_
    have key2 : ∀ q : Pt, q ∈ k :: ks → (le2 q k ∨ q ∈ ks) := fun q z => by
      rcases List.mem_cons.mp z with e | z
      · subst e; exact .inl (by unfold le2; omega)
      · exact .inr z
    exact ⟨key2 _ (h x hx).1, key2 _ (h x hx).2⟩
end Rw
namespace Rw
open PySem L2
/-! ### kinds of data that never change -/
structure Kd (α : Type) where
  is : Hp → V → α → Prop
  mono : ∀ {F F' : Hp} {v : V} {x : α}, Same F F' → is F v x → is F' v x
def kInt : Kd Int := ⟨fun _ v x => v = .int x, fun _ h => h⟩
def kRow : Kd Row := ⟨fun F v r => ∃ t, v = .ref t ∧ F t = some (.tup [.int r.1, .int r.2.1, .int r.2.2]), fun s ⟨t, e, h⟩ => ⟨t, e, s _ _ h⟩⟩
def kPt : Kd Pt := ⟨fun F v p => ∃ t, v = .ref t ∧ F t = some (.tup [.int p.1, .int p.2]), fun s ⟨t, e, h⟩ => ⟨t, e, s _ _ h⟩⟩
def kW : Kd WRow := ⟨fun F v x => ∃ t u, v = .ref t ∧ F t = some (.tup [u, .int x.2]) ∧ kRow.is F u x.1, fun s ⟨t, u, e, h, k⟩ => ⟨t, u, e, s _ _ h, kRow.mono s k⟩⟩
theorem pr_mono {α : Type} {R S : V → α → Prop} (h : ∀ v x, R v x → S v x) : ∀ {vs : List V} {xs : List α}, Paired R vs xs → Paired S vs xs
  | _, _, .nil => .nil
  | _, _, .cons r t => .cons (h _ _ r) (pr_mono h t)
theorem pr_len {α : Type} {R : V → α → Prop} : ∀ {vs : List V} {xs : List α}, Paired R vs xs → vs.length = xs.length
  | _, _, .nil => rfl
  | _, _, .cons _ t => by rw [List.length_cons, List.length_cons, pr_len t]
theorem pr_get {α : Type} {R : V → α → Prop} : ∀ {vs : List V} {xs : List α} {i : Nat} {v : V}, Paired R vs xs → vs[i]? = some v → ∃ x, xs[i]? = some x ∧ R v x
  | _, _, _, _, .nil, e => by simp at e
  | _, _, 0, _, .cons r _, e => by simp at e; subst e; exact ⟨_, rfl, r⟩
  | _, _, i + 1, v, .cons _ t, e => by
    obtain ⟨x, h1, h2⟩ := pr_get (i := i) (v := v) t (by simpa using e)
    exact ⟨x, by simpa using h1, h2⟩
theorem pr_get' {α : Type} {R : V → α → Prop} : ∀ {vs : List V} {xs : List α} {i : Nat} {x : α}, Paired R vs xs → xs[i]? = some x → ∃ v, vs[i]? = some v ∧ R v x
  | _, _, _, _, .nil, e => by simp at e
  | _, _, 0, _, .cons r _, e => by simp at e; subst e; exact ⟨_, rfl, r⟩
  | _, _, i + 1, v, .cons _ t, e => by
    obtain ⟨x, h1, h2⟩ := pr_get' (i := i) t (by simpa using e)
    exact ⟨x, by simpa using h1, h2⟩
theorem pr_append {α : Type} {R : V → α → Prop} : ∀ {vs us : List V} {xs ys : List α}, Paired R vs xs → Paired R us ys → Paired R (vs ++ us) (xs ++ ys)
  | _, _, _, _, .nil, s => s
  | _, _, _, _, .cons r t, s => .cons r (pr_append t s)
theorem pr_snoc {α : Type} {R : V → α → Prop} {vs : List V} {xs : List α} {v : V} {x : α} (h : Paired R vs xs) (r : R v x) : Paired R (vs ++ [v]) (xs ++ [x]) := pr_append h (.cons r .nil)
theorem pr_take {α : Type} {R : V → α → Prop} : ∀ {vs : List V} {xs : List α} (n : Nat), Paired R vs xs → Paired R (vs.take n) (xs.take n)
  | _, _, 0, _ => .nil
  | _, _, _ + 1, .nil => .nil
  | _, _, n + 1, .cons r t => .cons r (pr_take n t)
theorem pr_drop {α : Type} {R : V → α → Prop} : ∀ {vs : List V} {xs : List α} (n : Nat), Paired R vs xs → Paired R (vs.drop n) (xs.drop n)
  | _, _, 0, r => r
  | _, _, _ + 1, .nil => .nil
  | _, _, n + 1, .cons _ t => pr_drop n t
theorem pr_map {α β : Type} {R : V → α → Prop} {S : V → β → Prop} {f : α → β} (h : ∀ v x, R v x → S v (f x)) : ∀ {vs : List V} {xs : List α}, Paired R vs xs → Paired S vs (xs.map f)
  | _, _, .nil => .nil
  | _, _, .cons r t => .cons (h _ _ r) (pr_map h t)
theorem pr_mem {α : Type} {R : V → α → Prop} {v : V} : ∀ {vs : List V} {xs : List α}, Paired R vs xs → v ∈ vs → ∃ x ∈ xs, R v x
  | _, _, .nil, h => by simp at h
  | _, _, .cons r t, h => by
    rcases List.mem_cons.mp h with e | h
    · subst e; exact ⟨_, List.mem_cons_self, r⟩
    · obtain ⟨x, hx, rx⟩ := pr_mem t h; exact ⟨x, List.mem_cons_of_mem _ hx, rx⟩
/-- lists of data -/
def kL {α : Type} (k : Kd α) : Kd (List α) := ⟨fun F v xs => ∃ a vs, v = .ref a ∧ F a = some (.lst vs) ∧ Paired (k.is F) vs xs, fun s ⟨a, vs, e, h, p⟩ => ⟨a, vs, e, s _ _ h, pr_mono (fun _ _ r => k.mono s r) p⟩⟩
/-! ### frames: F the part that never changes, H the whole; M the places that the step may change -/
structure Ext (M : Addr → Prop) (F H F' H' : Hp) : Prop where
  ff : Same F F'
  fh : Same F' H'
  hh : ∀ b o, H b = some o → ¬ M b → H' b = some o
  tr : ∀ b, H b ≠ none → H' b ≠ none
  new : ∀ b, H b ≠ none → F' b = F b
abbrev M0 : Addr → Prop := fun _ => False
section
variable {M M' : Addr → Prop} {F H F' H' F'' H'' : Hp} {p : Addr} {o : HO}
theorem Ext.refl (s : Same F H) : Ext M F H F H := ⟨Same.refl F, s, fun _ _ h _ => h, fun _ h => h, fun _ _ => rfl⟩
theorem Ext.trans (a : Ext M F H F' H') (b : Ext M F' H' F'' H'') : Ext M F H F'' H'' :=
  ⟨a.ff.trans b.ff, b.fh, fun c u h m => b.hh c u (a.hh c u h m) m, fun c h => b.tr c (a.tr c h), fun c h => (b.new c (a.tr c h)).trans (a.new c h)⟩
theorem Ext.mono (a : Ext M F H F' H') (h : ∀ b, M b → M' b) : Ext M' F H F' H' := ⟨a.ff, a.fh, fun c u e m => a.hh c u e fun z => m (h c z), a.tr, a.new⟩
theorem Ext.up (a : Ext M0 F H F' H') : Ext M F H F' H' := a.mono fun _ z => z.elim
theorem Ext.same (a : Ext M0 F H F' H') : Same H H' := fun b o h => a.hh b o h fun z => z
theorem Ext.free (a : Ext M F H F' H') (h : H' p = none) : H p = none := by
  cases q : H p with
  | none => rfl
  | some u => exact absurd h (a.tr p (by rw [q]; simp))
theorem Ext.ffree (a : Ext M F H F' H') (h : H' p = none) : F' p = none := a.fh.free h
/-- a new thing that never changes -/
theorem Ext.lay (a : Ext M F H F' H') (h : H' p = none) : Ext M F H (upd F' p o) (upd H' p o) := by
  have fp := a.ffree h
  have hp := a.free h
  refine ⟨fun b u e => ?_, fun b u e => ?_, fun b u e m => ?_, fun b e => ?_, fun b e => ?_⟩
  · rw [upd_ne (ne_of_none (a.ff b u e) fp)]; exact a.ff b u e
  · by_cases hb : b = p
    · subst hb; rw [upd_same] at e ⊢; exact e
    · rw [upd_ne hb] at e ⊢; exact a.fh b u e
  · rw [upd_ne (ne_of_none (a.hh b u e m) h)]; exact a.hh b u e m
  · by_cases hb : b = p
    · subst hb; exact absurd hp e
    · rw [upd_ne hb]; exact a.tr b e
  · by_cases hb : b = p
    · subst hb; exact absurd hp e
    · rw [upd_ne hb]; exact a.new b e
/-- a new thing outside of F, or a change of one -/
theorem Ext.put (a : Ext M F H F' H') (h : H p = none ∨ M p) (f : F' p = none) : Ext M F H F' (upd H' p o) := by
  refine ⟨a.ff, fun b u e => ?_, fun b u e m => ?_, fun b e => ?_, a.new⟩
  · rw [upd_ne (ne_of_none e f)]; exact a.fh b u e
  · have hb : b ≠ p := fun z => by
      subst z
      rcases h with h | h
      · rw [h] at e; cases e
      · exact m h
    rw [upd_ne hb]; exact a.hh b u e m
  · by_cases hb : b = p
    · subst hb; rw [upd_same]; simp
    · rw [upd_ne hb]; exact a.tr b e
theorem Ext.tmp (a : Ext M F H F' H') (h : H' p = none) : Ext M F H F' (upd H' p o) := a.put (.inl (a.free h)) (a.ffree h)
/-- what was made within, from now on never changes -/
theorem Ext.frz (a : Ext M F H F' H') (h : H p = none) (f : F' p = none) (e : H' p = some o) : Ext M F H (upd F' p o) H' := by
  refine ⟨fun b u z => ?_, fun b u z => ?_, a.hh, a.tr, fun b z => ?_⟩
  · rw [upd_ne (ne_of_none (a.ff b u z) f)]; exact a.ff b u z
  · by_cases hb : b = p
    · subst hb; rw [upd_same] at z; cases z; exact e
    · rw [upd_ne hb] at z; exact a.fh b u z
  · have hb : b ≠ p := fun q => by subst q; exact z h
    rw [upd_ne hb]; exact a.new b z
end
theorem same_upd {H : Hp} {p : Addr} {o : HO} (h : H p = none) : Same H (upd H p o) := fun b x e => by
  rw [upd_ne (ne_of_none e h)]
  exact e
/-- a promise: a new list of such data, of which φ holds; the list itself may be changed behind -/
def RetL {α : Type} (M : Addr → Prop) (F H : Hp) (k : Kd α) (φ : List α → Prop) (Q : VK) : Prop :=
  ∀ (F' H' : Hp) (a : Addr) (vs : List V) (xs : List α), Ext M F H F' H' → H a = none → F' a = none → H' a = some (.lst vs) → Paired (k.is F') vs xs → φ xs → Q (.ref a) H'
/-- a promise: this value, nothing changed -/
def RetV (F H : Hp) (v : V) (Q : VK) : Prop := ∀ (F' H' : Hp), Ext M0 F H F' H' → Q v H'
theorem kL_new {α : Type} {k : Kd α} {F' : Hp} {a : Addr} {vs : List V} {xs : List α} (f : F' a = none) (h : Paired (k.is F') vs xs) : (kL k).is (upd F' a (.lst vs)) (.ref a) xs :=
  ⟨a, vs, rfl, upd_same, pr_mono (fun _ _ r => k.mono (same_upd f) r) h⟩
/-! ### as data of the library -/
def dRow (r : Row) : PyData := .tuple [.int r.1, .int r.2.1, .int r.2.2]
def dPt (p : Pt) : PyData := .tuple [.int p.1, .int p.2]
structure Kd.Enc {α : Type} (k : Kd α) (d : α → PyData) : Prop where
  dp : ∀ {K : PySem.W.Frag} {F H : Hp} {v : V} {x : α}, Same F H → k.is F v x → Dp K H v (d x)
theorem dpInts {K : PySem.W.Frag} {H : Hp} : ∀ ns : List Int, DpAll K H (ns.map V.int) (ns.map PyData.int)
  | [] => .nil
  | n :: ns => .cons (.int n) (dpInts ns)
theorem enc_row : kRow.Enc dRow := ⟨fun s ⟨t, e, h⟩ => by subst e; exact .tup (SqT.of (s _ _ h)) (dpInts [_, _, _])⟩
theorem enc_pt : kPt.Enc dPt := ⟨fun s ⟨t, e, h⟩ => by subst e; exact .tup (SqT.of (s _ _ h)) (dpInts [_, _])⟩
theorem dpAll {α : Type} {k : Kd α} {d : α → PyData} (E : k.Enc d) {K : PySem.W.Frag} {F H : Hp} (s : Same F H) : ∀ {vs : List V} {xs : List α}, Paired (k.is F) vs xs → DpAll K H vs (xs.map d)
  | _, _, .nil => .nil
  | _, _, .cons r t => .cons (E.dp s r) (dpAll E s t)
def dL {α : Type} (d : α → PyData) (xs : List α) : PyData := .list (xs.map d)
theorem enc_L {α : Type} {k : Kd α} {d : α → PyData} (E : k.Enc d) : (kL k).Enc (dL d) := ⟨fun s ⟨a, vs, e, h, p⟩ => by subst e; exact .lst (SqL.of (s _ _ h)) (dpAll E s p)⟩
end Rw
namespace Rw
open PySem PySem.Spec PyProof.Rows L2
/-! ### sorted(d) of a dict whose keys are pairs of ints, any length -/
section
variable {prog : Program} {w : World} {A : Around} {E : Value → Shared → Prop} {s : Shared} {T : String} {r d : Addr} {n : Nat} {P : Nat → Value → Prop} {OK : Heap → Prop}
theorem sorted_src {vs : List Value} {k : Value → Int × Int} {Q : Value → Shared → Prop} (K : PySem.W.KdlSrc prog w T r d n P OK) (hh : A.handled = none) (hok : OK s.heap) (hn : n ≤ sizeLine)
    (hv : ∀ acc, ItemsOf P acc n → acc.toList = vs) (hp : ∀ v ∈ vs, Srt.IsPair s.heap v (k v).1 (k v).2)
    (h : ∀ (h1 h' : Heap) (tk : Nat) (e : Addr) (out : List Value), SrtO.Srtd (fun v u => SrtO.lexB (k v) (k u)) out → SrtO.Stb (fun v u => SrtO.lexB (k v) (k u)) out vs → (∀ b o, s.heap.get? b = some o → h1.get? b = some o) → (∀ b o, h1.get? b = some o → h'.get? b = some o) → h1.objs.size ≤ e →
      (∃ n, h'.get? e = some (seqObj "list" out.toArray n)) → Q (.ref e) { s with heap := h', toks := tk }) :
    wpAny (model prog w) A (call (.builtin "sorted") [.ref r]) Q E s := by
  refine Calls.call_function_entry kind_sorted plain_sorted entry_sorted (args_sorted1 _) ?_
  unfold Builtin.«sorted»
  refine wpAny_bind (m := checkCount "sorted" 1 1 _) (wpAny_pure ?_)
  refine wpAny_bind (PySem.W.kdu_collect (A := A.in1) K hh hok hn fun h' tk acc hk hacc => ?_)
  have e := hv acc hacc
  have hz : vs.length ≤ sizeLine := by rw [← e, Array.length_toList, hacc.1]; exact hn
  rw [e]
  refine wpAny_bind (wpAny_newList ?_ hz)
  have hoL : (h'.push (seqObj "list" vs.toArray 0)).get? h'.objs.size = some (seqObj "list" vs.toArray 0) := Heap.get?_push_size _ rfl
  have keep : ∀ b o, s.heap.get? b = some o → b ≠ h'.objs.size ∧ (h'.push (seqObj "list" vs.toArray 0)).get? b = some o := fun b o q =>
    ⟨Nat.ne_of_lt (Heap.lt_size (hk b o q)), Heap.get?_push_of_some _ (hk b o q)⟩
  show wpAny _ _ _ _ _ { s with heap := h'.push (seqObj "list" vs.toArray 0), toks := tk }
  refine wpAny_bind (wpAny_holding (wpAny_call_entry slot_list_sort ⟨_, hoL, rfl⟩ entry_list_sort
    (SrtO.list_sort_ord (s := { s with heap := h'.push (seqObj "list" vs.toArray 0), toks := tk }) (SrtO.swo_lex k) hoL hz (fun h2 => ?_) fun out hs hb => ⟨_, rfl, ?_⟩) (args_list_sort _)))
  · refine SrtO.pairs_sortableO (s := { s with heap := h'.push (seqObj "list" vs.toArray 0), toks := tk }) (by omega) (fun v hm => (hp v hm).keeps fun b o e _ => (keep b o e).2) fun o e' => ?_
    have e2 : some o = some (seqObj "list" vs.toArray 0) := e'.symm.trans hoL
    cases e2
    intro c
    exact absurd (Value.type.inj c) (by decide)
  · refine wpAny_pure ⟨_, rfl, h h' _ tk h'.objs.size out hs hb hk (fun b o q => ?_) (Nat.le_refl _) (sortedHeap_at hoL)⟩
    have hb : b < h'.objs.size := Heap.lt_size q
    rw [sortedHeap_old (Nat.ne_of_lt hb) (by rw [size_push']; exact Nat.lt_succ_of_lt hb)]
    exact Heap.get?_push_of_some _ q
end
/-- the key of a point -/
def kk (p : Pt) : List Key := [.inl p.1, .inl p.2]
theorem kk_inj {p q : Pt} (h : kk p = kk q) : p = q := by
  unfold kk at h
  have h1 := List.cons.inj h
  have h2 := List.cons.inj h1.2
  obtain ⟨p1, p2⟩ := p
  obtain ⟨q1, q2⟩ := q
  have e1 : p1 = q1 := Sum.inl.inj h1.1
  have e2 : p2 = q2 := Sum.inl.inj h2.1
  rw [e1, e2]
section
variable {X : Cx}
/-- the pair of ints that a value is, by the abstract heap -/
noncomputable def ptOf (H : Hp) (v : V) : Pt := open Classical in if h : ∃ p : Pt, kPt.is H v p then h.choose else (0, 0)
theorem kPt_inj {H : Hp} {v : V} {p q : Pt} (a : kPt.is H v p) (b : kPt.is H v q) : p = q := by
  obtain ⟨t, e, h⟩ := a
  obtain ⟨u, e', h'⟩ := b
  subst e
  cases e'
  rw [h] at h'
  have z := HO.tup.inj (Option.some.inj h')
  have z1 := List.cons.inj z
  have z2 := List.cons.inj z1.2
  obtain ⟨p1, p2⟩ := p
  obtain ⟨q1, q2⟩ := q
  have e1 : p1 = q1 := V.int.inj z1.1
  have e2 : p2 = q2 := V.int.inj z2.1
  rw [e1, e2]
theorem ptOf_eq {H : Hp} {v : V} {p : Pt} (h : kPt.is H v p) : ptOf H v = p := by
  have e : ∃ p : Pt, kPt.is H v p := ⟨p, h⟩
  unfold ptOf
  rw [dif_pos e]
  exact kPt_inj e.choose_spec h
theorem isPair_of {pins : List (Addr × Obj)} {σ : L2.St} {H : Hp} {s : Shared} (I : Inv X pins σ H s) {t : Addr} {p : Pt} (h : kPt.is H (.ref t) p) : Srt.IsPair s.heap (.ref t) p.1 p.2 := by
  obtain ⟨u, e, ht⟩ := h
  cases e
  obtain ⟨_, its2, r2, o, ho, hc, n, hd⟩ := I.hok _ _ ht
  obtain ⟨u1, u2, rfl, ri, rj⟩ := vals2 r2
  obtain ⟨t1, rfl⟩ := ri
  obtain ⟨t2, rfl⟩ := rj
  exact ⟨_, o, t1, t2, n, rfl, ho, hc, hd⟩
theorem keys_pts {H : Hp} : ∀ {kvs : List (List Key × V)} {bs : List Addr} {ps : List Pt}, IsKeys H kvs bs → kvs.map (·.1) = ps.map kk → Paired (kPt.is H) (bs.map V.ref) ps
  | [], _, [], .nil, _ => .nil
  | [], _, _ :: _, .nil, e => by simp at e
  | _ :: _, _, [], _, e => by simp at e
  | kv :: kvs, _, p :: ps, .cons (b := b) r t, e => by
    have e1 := List.cons.inj e
    refine .cons ⟨b, rfl, ?_⟩ (keys_pts t e1.2)
    have : kv.1 = kk p := e1.1
    rw [this] at r
    exact r
theorem pr_perm {α : Type} {R : V → α → Prop} {f : V → α} (hf : ∀ v x, R v x → f v = x) : ∀ {vs : List V} {xs : List α}, Paired R vs xs → xs = vs.map f
  | _, _, .nil => rfl
  | _, _, .cons r t => by rw [List.map_cons, ← pr_perm hf t, hf _ _ r]
theorem pr_of_all {α : Type} {R : V → α → Prop} {f : V → α} : ∀ {vs : List V}, (∀ v ∈ vs, R v (f v)) → Paired R vs (vs.map f)
  | [], _ => .nil
  | v :: vs, h => .cons (h v List.mem_cons_self) (pr_of_all fun u hu => h u (List.mem_cons_of_mem _ hu))
/-- what behind a sort of pairs stands: the points, in order -/
theorem sorted_pts {H : Hp} {vs ys : List V} {ps : List Pt} (h : Paired (kPt.is H) vs ps) (nd : ps.Nodup) (hs : SrtO.Srtd (ltP (ptOf H)) ys) (hb : SrtO.Stb (ltP (ptOf H)) ys vs) :
    ∃ qs : List Pt, Paired (kPt.is H) ys qs ∧ qs.Perm ps ∧ qs.Pairwise lt2 := by
  have e : ps = vs.map (ptOf H) := pr_perm (fun v x r => ptOf_eq r) h
  have all : ∀ v ∈ ys, kPt.is H v (ptOf H v) := fun v hv => by
    obtain ⟨x, _, r⟩ := pr_mem h (hb.perm.mem_iff.mp hv)
    rw [ptOf_eq r]
    exact r
  have perm : (ys.map (ptOf H)).Perm ps := by rw [e]; exact hb.perm.map _
  refine ⟨ys.map (ptOf H), pr_of_all all, perm, ?_⟩
  have nd' : (ys.map (ptOf H)).Nodup := perm.nodup_iff.mpr nd
  rw [List.pairwise_map]
  have nd2 : ys.Pairwise fun a b => ptOf H a ≠ ptOf H b := List.pairwise_map.mp nd'
  refine (List.Pairwise.and hs nd2).imp fun {a b} z => ?_
  have a1 := SrtO.lexB_no.mp z.1
  have a2 := z.2
  unfold lt2
  have a3 : ¬ ((ptOf H a).1 = (ptOf H b).1 ∧ (ptOf H a).2 = (ptOf H b).2) := fun q => a2 (Prod.ext q.1 q.2)
  omega
def rSortedDT : List V → Hp → VK → Prop := fun vs H Q => ∃ (d : Addr) (kvs : List (List Key × V)) (ps : List Pt), vs = [V.ref d] ∧ H d = some (.dT kvs) ∧ kvs.map (·.1) = ps.map kk ∧ ps.Nodup ∧
  ∀ (ys : List V) (qs : List Pt) (p : Addr), Paired (kPt.is H) ys qs → qs.Perm ps → qs.Pairwise lt2 → H p = none → Q (.ref p) (upd H p (.lst ys))
theorem cr_sortedDT (hc : X.calm = true) : CallR X (.builtin "sorted") rSortedDT := by
  intro pins s σ H xs us Q I r h
  obtain ⟨d, kvs, ps, rfl, hd, hps, hnd, q⟩ := h
  obtain ⟨u, rfl, rx⟩ := r.one
  cases rx
  obtain ⟨z, hs, ks, pr, o, es, ep, ho, hx, hdt, he, hn⟩ := (show ObjOk X.prog X.w H s.heap d (.dT kvs) from I.hok d _ hd)
  have l1 : es.size = ks.length := size_of_entries he
  have l2 : kvs.length = ks.length := Paired.length pr
  have hpp : Paired (kPt.is H) ((ks.map fun x => x.2.1).map V.ref) ps := keys_pts (isKeys_of pr) hps
  refine sorted_src (vs := (ks.map fun x => x.2.1).map Value.ref) (k := fun u => ptOf H (backV u)) (kdl_raw hs hx hdt) (I.ok.hd hc) ho (by omega) (fun acc' it => ?_) (fun v hv => ?_) fun h1 h' tk e out hs1 hb1 k1 k2 hle hob => ?_
  · have hl : acc'.toList.length = ks.length := by rw [Array.length_toList, it.1]; exact l1
    rw [List.map_map]
    apply List.ext_getElem?
    intro j
    rw [List.getElem?_map]
    cases hj : acc'.toList[j]? with
    | none =>
      have h1 := List.getElem?_eq_none_iff.mp hj
      rw [List.getElem?_eq_none (by omega)]
      all_goals rfl
    | some v =>
      obtain ⟨en, hen, hv⟩ := it.2 j v (by rw [← Array.getElem?_toList]; exact hj)
      have qe := entry_at he j
      rw [hen] at qe
      cases hb : ks[j]? with
      | none =>
        rw [hb] at qe
        exact nomatch (show some en = none from qe)
      | some b =>
        rw [hb] at qe
        have e2 : en = entryOfKey (tupleKind (mixKind X.prog X.w)) b := Option.some.inj qe
        rw [hv, e2]
        all_goals rfl
  · obtain ⟨t, ht, rfl⟩ := List.mem_map.mp hv
    obtain ⟨x, _, rx⟩ := pr_mem hpp (List.mem_map.mpr ⟨t, ht, rfl⟩)
    have : ptOf H (backV (Value.ref t)) = x := ptOf_eq rx
    show Srt.IsPair _ _ (ptOf H (backV (Value.ref t))).1 (ptOf H (backV (Value.ref t))).2
    rw [this]
    exact isPair_of I rx
  · have h3 : ∀ u ∈ out, ∃ a, u = Value.ref a := fun u hu => by
      have := hb1.perm.mem_iff.mp hu
      obtain ⟨t, _, rfl⟩ := List.mem_map.mp this
      exact ⟨t, rfl⟩
    have hback : ((ks.map fun x => x.2.1).map Value.ref).map backV = (ks.map fun x => x.2.1).map V.ref := by
      rw [List.map_map]
      exact List.map_congr_left fun _ _ => rfl
    have hb2 : SrtO.Stb (ltP (ptOf H)) (out.map backV) ((ks.map fun x => x.2.1).map V.ref) := by
      rw [← hback]
      exact SrtO.Stb.map (ltP_swo (ptOf H)) backV hb1
    obtain ⟨qs, a1, a2, a3⟩ := sorted_pts hpp hnd (SrtO.srtd_map hs1) hb2
    obtain ⟨n, hob⟩ := hob
    have I1 : Inv X pins σ H { s with heap := h1 } := I.kept (t' := s.toks) k1
    refine ⟨.ref e, upd H e (.lst (out.map backV)), I1.laid (t' := tk) k2 hle ⟨?_, out, n, vals_back h3, hob⟩, rfl, q _ qs e a1 a2 a3 (I1.hok.fresh hle)⟩
    rw [hb2.len, List.length_map, List.length_map, ← l2]
    exact z
end
end Rw
namespace Rw
open PySem PySem.Spec PySem.Calls PyProof.Rows L2
/-! ### x, *rest = a tuple -/
section
variable {prog : Program} {w : World} {A : Around} {E : Value → Shared → Prop} {s : Shared}
theorem star_of {t : Addr} {its : Array Value} {R : List Value → Shared → Prop} (calm : A.handled = none) (tp : IsTup s.heap t its) (pos : 1 ≤ its.size) (few : its.size ≤ sizeLine)
    (end' : ∀ (g : Heap) (tk : Nat), (∀ b o, s.heap.get? b = some o → g.get? b = some o) → R (its.toList.take 1 ++ [.ref g.objs.size] ++ []) { s with heap := g.push { cls := .type "list", data := .seq (its.toList.drop 1).toArray 0 }, toks := tk }) :
    wpAny (model prog w) A (unpackItems (.ref t) 2 (some 1)) R E s := by
  have old : t < s.heap.objs.size := by obtain ⟨o, e, _⟩ := tp; exact Heap.lt_size e
  have ne : t ≠ s.heap.objs.size := Nat.ne_of_lt old
  have len1 : (its.toList.take 1).length = 1 := by rw [List.length_take, Array.length_toList]; omega
  have lenR : (its.toList.drop 1).length = its.size - 1 := by rw [List.length_drop, Array.length_toList]
  unfold unpackItems notIterableAtAll
  refine wpAny_bind (wpAny_bind (wpAny_specialOf tp.typeIs slot_tuple_iter.lookup (wpAny_pure ?_)))
  simp only [Bool.false_eq_true, if_false]
  refine wpAny_bind (wpAny_holding (iter_tuple tp (wpAny_bind (wpAny_holding (draw_tuple ne 1 0 _ _ ⟨_, Heap.get?_push_size _ rfl, rfl, rfl⟩ (tp.push _) (by omega) fun g1 it1 same1 => ?_)))))
  have tp1 : IsTup g1 t its := (tp.push _).extBut same1.extBut ne
  obtain ⟨o1, ho1, _⟩ := id it1
  obtain ⟨o2, ho2, _⟩ := id tp1
  rw [List.drop_zero, if_neg (by rw [len1]; omega)]
  rw [Nat.zero_add] at it1
  refine wpAny_bind (wpAny_holding (PySem.W.kun_collect (T := "tuple_iterator") (.inr (.inr (.inr rfl))) (Walks.tuple (A := A.in1) calm s.heap.objs.size t ne its) (fun j u st => st.1.typeIs) (k := 1) pos ⟨it1, tp1⟩ (Heap.lt_size ho1) (Heap.lt_size ho2) (fun g2 tk kept => ?_) few))
  show wpAny _ _ (if (its.toList.drop 1).length < 2 - 1 - 1 then _ else _) _ _ _
  rw [if_neg (by omega)]
  have e1 : (its.toList.drop 1).length - (2 - 1 - 1) = (its.toList.drop 1).length := by omega
  show wpAny _ _ (newList ((its.toList.drop 1).take ((its.toList.drop 1).length - (2 - 1 - 1))) >>= fun d => pure (its.toList.take 1 ++ [d] ++ (its.toList.drop 1).drop ((its.toList.drop 1).length - (2 - 1 - 1)))) _ _ _
  rw [e1, List.take_length, List.drop_length]
  refine wpAny_bind (wpAny_newList (wpAny_pure (end' g2 tk fun b o e => ?_)) (by rw [lenR]; omega))
  have nb : b ≠ s.heap.objs.size := Nat.ne_of_lt (Heap.lt_size e)
  exact kept b o nb (same1.extBut b o nb (Heap.get?_push_of_some _ e))
end
section
variable {X : Cx}
def gStar1 (K : PySem.W.Frag) (t : TGs) : TG := fun v σ H Q => ∃ a x xs, v = .ref a ∧ SqT K H a (x :: xs) ∧ ∀ p, H p = none → t [x, .ref p] σ (upd H p (.lst xs)) Q
theorem pg_star1 {e e2 : Expr} {k : Nat} {pos p2 : Pos} {t : TGs} (hc : X.calm = true) (h : PGs X [e, e2] t)
    (hn : (assignEach [e, .Starred e2 p2] X.env).length = 2 := by rfl) (hst : (assignEach [e, .Starred e2 p2] X.env).findIdx? (·.1) = some 1 := by rfl)
    (hm : (assignEach [e, .Starred e2 p2] X.env).map (·.2) = (assignEach [e, e2] X.env).map (·.2) := by rfl) : PG X (.Tuple [e, .Starred e2 p2] k pos) (gStar1 X.K t) := by
  refine ⟨fun pins s σ H v u Q I r hw => ?_⟩
  obtain ⟨a, x, xs, rfl, hq, q⟩ := hw
  cases r
  obtain ⟨its, rv, ht, hz⟩ := I.tuple hq
  cases rv with
  | cons r1 r2 =>
    rename_i u1 us
    rw [assign_Tuple]
    refine wpAny_bind (wpAny_standAt ?_)
    unfold unpack
    rw [hn, hst, hm]
    refine wpAny_bind (wpAny_holding (star_of (I.ok.hd hc) ht (by simp) (by have e := r2.length; simp only [List.length_cons] at hz; simp only [List.size_toArray, List.length_cons]; omega) fun g tk kept => ?_))
    have I1 : Inv X pins σ H { s with heap := g, toks := tk } := I.kept (t' := tk) kept
    have nf : H g.objs.size = none := I1.hok.fresh (Nat.le_refl _)
    have I2 : Inv X pins σ (upd H g.objs.size (.lst xs)) { s with heap := g.push { cls := .type "list", data := .seq us.toArray 0 }, toks := tk } :=
      I1.laid (t' := tk) (fun b o e => Heap.get?_push_of_some _ e) (Nat.le_refl _) ⟨by have := hz; simp at this; omega, us, 0, r2, Heap.get?_push_size _ rfl⟩
    exact h.run pins _ σ _ [x, .ref g.objs.size] [u1, .ref g.objs.size] Q I2 (.cons r1 (.cons rfl .nil)) (q _ nf)
/-- xs[i] op= v: what is read -/
def rGetL (K : PySem.W.Frag) : V → V → Hp → VK → Prop := fun x y H Q => ∃ p xs i v, x = .ref p ∧ y = .int i ∧ SqL K H p xs ∧ 0 ≤ i ∧ atI xs i = some v ∧ Q v H
theorem pget_list : PGet X (rGetL X.K) := by
  intro pins s σ H x y ov iv Q I rx ry h
  obtain ⟨p, xs, i, z, rfl, rfl, hq, h0, he, q⟩ := h
  cases rx
  obtain ⟨t, rfl⟩ := ry
  obtain ⟨its, r, pl, hz⟩ := I.list hq
  obtain ⟨j, h1, h2, h3, h4, h5⟩ := atI_get he
  obtain ⟨w, ew, rw'⟩ := r.get h2
  have hl := r.length
  have hn := line63
  have hj : i.toNat = j := by
    rw [seqIndex_of h0 h5] at h1
    exact Option.some.inj h1
  exact getItem_listL pl.isList h0 (by omega) (by rw [hj]; simpa using ew) ⟨z, H, I, rw', q⟩
end
end Rw
namespace Rw
open PySem L2
section
variable (P : Program) (w : World) (K : PySem.W.Frag) (mg : Str → Option Value) (base : Heap)
/-- a def that may be called by its name -/
def Cal (k : Nat) (x : Str) (ps : List Str) (sp : Sp) : Prop :=
  ∃ (f : Addr) (fd : FuncData), FnOk P w K mg base CX0 k f fd ps sp ∧ mg x = some (.ref f) ∧ PySem.W.keepIn K (.ref f) = true ∧ Binds K fd ps []
end
theorem tyx_int {K : PySem.W.Frag} {H : Hp} (i : Int) : TyX K H (.int i) (.type "int") := .base (.int i)
theorem tyx_tup {K : PySem.W.Frag} {H : Hp} {a : Addr} {xs : List V} (h : H a = some (.tup xs)) : TyX K H (.ref a) (.type "tuple") := .base (.tup h)
theorem tyx_lst {K : PySem.W.Frag} {H : Hp} {a : Addr} {xs : List V} (h : H a = some (.lst xs)) : TyX K H (.ref a) (.type "list") := .base (.lst h)
theorem kit_ii {K : PySem.W.Frag} : PySem.W.kitOne K (.type "int") (.type "int") = some true := kit_ty (by decide +kernel)
theorem kit_ib {K : PySem.W.Frag} : PySem.W.kitOne K (.type "int") (.type "bool") = some false := kit_ty (by decide +kernel)
theorem kit_tt {K : PySem.W.Frag} : PySem.W.kitOne K (.type "tuple") (.type "tuple") = some true := kit_ty (by decide +kernel)
theorem bt_int : bootBuiltins "int" = some (.type "int") := by decide +kernel
theorem bt_bool : bootBuiltins "bool" = some (.type "bool") := by decide +kernel
theorem bt_tuple : bootBuiltins "tuple" = some (.type "tuple") := by decide +kernel
theorem pe_bty {X : Cx} {x : Str} {n : String} {pos : Pos} (hg : Gl X x) (hm : X.mg x = none) (hv : bootBuiltins x = some (.type n)) (hn : x ≠ "__name__" := by decide) (hd : (x == ("__debug__" : Str)) = false := by decide) : PE X (.Name x pos) (tC (.ty n)) :=
  pe_bltn (v := .ty n) (u := .type n) hg hm hv rfl hn hd
end Rw
namespace Rw
open PySem L2
def topS (i : Nat) : Stmt := PySem.Challenge.pw_doneranges_k31_brought_up_by_pieces.main.body.getD i (.Pass ⟨0, 0, 0, 0⟩)
abbrev s_wall : Stmt := topS 0
theorem sc_wall : FnScope ["k"] ["k"] (defScope s_wall) := ⟨rfl, rfl, rfl, by decide +kernel, rfl, by decide +kernel, by decide +kernel⟩
abbrev s_BadStretches___init__ : Stmt := inClass (topS 3) 0
theorem sc_BadStretches___init__ : FnScope ["self", "at"] ["self", "at"] (defScope s_BadStretches___init__) := ⟨rfl, rfl, rfl, by decide +kernel, rfl, by decide +kernel, by decide +kernel⟩
abbrev s_BadDeed___init__ : Stmt := inClass (topS 5) 0
theorem sc_BadDeed___init__ : FnScope ["self", "at"] ["self", "at"] (defScope s_BadDeed___init__) := ⟨rfl, rfl, rfl, by decide +kernel, rfl, by decide +kernel, by decide +kernel⟩
abbrev s_is_number : Stmt := topS 11
theorem sc_is_number : FnScope ["value", "low", "high"] ["value", "low", "high"] (defScope s_is_number) := ⟨rfl, rfl, rfl, by decide +kernel, rfl, by decide +kernel, by decide +kernel⟩
abbrev s_is_house : Stmt := topS 12
theorem sc_is_house : FnScope ["value"] ["value"] (defScope s_is_house) := ⟨rfl, rfl, rfl, by decide +kernel, rfl, by decide +kernel, by decide +kernel⟩
abbrev s_is_row : Stmt := topS 13
theorem sc_is_row : FnScope ["row", "house", "first", "last"] ["row"] (defScope s_is_row) := ⟨rfl, rfl, rfl, by decide +kernel, rfl, by decide +kernel, by decide +kernel⟩
abbrev s_first_wrong : Stmt := topS 14
theorem sc_first_wrong : FnScope ["rows", "at", "row"] ["rows"] (defScope s_first_wrong) := ⟨rfl, rfl, rfl, by decide +kernel, rfl, by decide +kernel, by decide +kernel⟩
abbrev s_check_rows : Stmt := topS 15
theorem sc_check_rows : FnScope ["rows", "at"] ["rows"] (defScope s_check_rows) := ⟨rfl, rfl, rfl, by decide +kernel, rfl, by decide +kernel, by decide +kernel⟩
abbrev s_is_in : Stmt := topS 16
theorem sc_is_in : FnScope ["rows", "house", "number", "maker", "first", "last"] ["rows", "house", "number"] (defScope s_is_in) := ⟨rfl, rfl, rfl, by decide +kernel, rfl, by decide +kernel, by decide +kernel⟩
abbrev s_changes_of : Stmt := topS 17
theorem sc_changes_of : FnScope ["weighed", "changes", "house", "first", "last", "weight"] ["weighed"] (defScope s_changes_of) := ⟨rfl, rfl, rfl, by decide +kernel, rfl, by decide +kernel, by decide +kernel⟩
abbrev s_reaching : Stmt := topS 18
theorem sc_reaching : FnScope ["weighed", "least", "changes", "out", "total", "start", "house", "number", "ahead"] ["weighed", "least"] (defScope s_reaching) := ⟨rfl, rfl, rfl, by decide +kernel, rfl, by decide +kernel, by decide +kernel⟩
abbrev s_fewest : Stmt := topS 19
theorem sc_fewest : FnScope ["rows", "row"] ["rows"] (defScope s_fewest) := ⟨rfl, rfl, rfl, by decide +kernel, rfl, by decide +kernel, by decide +kernel⟩
abbrev s_without : Stmt := topS 20
theorem sc_without : FnScope ["one", "other", "kept", "barred", "row"] ["one", "other"] (defScope s_without) := ⟨rfl, rfl, rfl, by decide +kernel, rfl, by decide +kernel, by decide +kernel⟩
abbrev s_last_in : Stmt := topS 21
theorem sc_last_in : FnScope ["rows", "house", "maker", "_", "last"] ["rows", "house"] (defScope s_last_in) := ⟨rfl, rfl, rfl, by decide +kernel, rfl, by decide +kernel, by decide +kernel⟩
abbrev s_check_many : Stmt := topS 25
theorem sc_check_many : FnScope ["many"] ["many"] (defScope s_check_many) := ⟨rfl, rfl, rfl, by decide +kernel, rfl, by decide +kernel, by decide +kernel⟩
abbrev s_check_one_of : Stmt := topS 26
theorem sc_check_one_of : FnScope ["which", "many"] ["which", "many"] (defScope s_check_one_of) := ⟨rfl, rfl, rfl, by decide +kernel, rfl, by decide +kernel, by decide +kernel⟩
abbrev s_stamp : Stmt := topS 29
theorem sc_stamp : FnScope ["deed", "house", "number", "time", "_"] ["deed"] (defScope s_stamp) := ⟨rfl, rfl, rfl, by decide +kernel, rfl, by decide +kernel, by decide +kernel⟩
abbrev s_name_of : Stmt := topS 30
theorem sc_name_of : FnScope ["deed"] ["deed"] (defScope s_name_of) := ⟨rfl, rfl, rfl, by decide +kernel, rfl, by decide +kernel, by decide +kernel⟩
abbrev s_word_of : Stmt := topS 31
theorem sc_word_of : FnScope ["deed"] ["deed"] (defScope s_word_of) := ⟨rfl, rfl, rfl, by decide +kernel, rfl, by decide +kernel, by decide +kernel⟩
abbrev s_is_change : Stmt := topS 32
theorem sc_is_change : FnScope ["parts"] ["parts"] (defScope s_is_change) := ⟨rfl, rfl, rfl, by decide +kernel, rfl, by decide +kernel, by decide +kernel⟩
abbrev s_is_name : Stmt := topS 33
theorem sc_is_name : FnScope ["parts"] ["parts"] (defScope s_is_name) := ⟨rfl, rfl, rfl, by decide +kernel, rfl, by decide +kernel, by decide +kernel⟩
abbrev s_is_sealed : Stmt := topS 34
theorem sc_is_sealed : FnScope ["parts", "rows"] ["parts"] (defScope s_is_sealed) := ⟨rfl, rfl, rfl, by decide +kernel, rfl, by decide +kernel, by decide +kernel⟩
abbrev s_is_what : Stmt := topS 35
theorem sc_is_what : FnScope ["what", "word", "parts"] ["what"] (defScope s_is_what) := ⟨rfl, rfl, rfl, by decide +kernel, rfl, by decide +kernel, by decide +kernel⟩
abbrev s_is_deed : Stmt := topS 36
theorem sc_is_deed : FnScope ["deed", "house", "number", "time", "what"] ["deed"] (defScope s_is_deed) := ⟨rfl, rfl, rfl, by decide +kernel, rfl, by decide +kernel, by decide +kernel⟩
abbrev s_in_order : Stmt := topS 37
theorem sc_in_order : FnScope ["deeds", "by_name", "deed"] ["deeds"] (defScope s_in_order) := ⟨rfl, rfl, rfl, by decide +kernel, rfl, by decide +kernel, by decide +kernel⟩
abbrev s_rows_of : Stmt := topS 38
theorem sc_rows_of : FnScope ["deeds", "deed"] ["deeds"] (defScope s_rows_of) := ⟨rfl, rfl, rfl, by decide +kernel, rfl, by decide +kernel, by decide +kernel⟩
abbrev s_is_lasting : Stmt := topS 40
theorem sc_is_lasting : FnScope ["deed"] ["deed"] (defScope s_is_lasting) := ⟨rfl, rfl, rfl, by decide +kernel, rfl, by decide +kernel, by decide +kernel⟩
abbrev s_void_in : Stmt := topS 41
theorem sc_void_in : FnScope ["line", "gone", "at", "deed", "places", "sealed", "out", "what"] ["line", "gone"] (defScope s_void_in) := ⟨rfl, rfl, rfl, by decide +kernel, rfl, by decide +kernel, by decide +kernel⟩
abbrev s_taken_in : Stmt := topS 42
theorem sc_taken_in : FnScope ["line", "gone", "name", "void_names", "taken", "deed"] ["line", "gone"] (defScope s_taken_in) := ⟨rfl, rfl, rfl, by decide +kernel, rfl, by decide +kernel, by decide +kernel⟩
abbrev s_standing : Stmt := topS 43
theorem sc_standing : FnScope ["line", "gone", "taken", "deed"] ["line", "gone"] (defScope s_standing) := ⟨rfl, rfl, rfl, by decide +kernel, rfl, by decide +kernel, by decide +kernel⟩
abbrev s_worths_behind : Stmt := topS 44
theorem sc_worths_behind : FnScope ["base", "line", "gone", "out", "deed", "what"] ["base", "line", "gone"] (defScope s_worths_behind) := ⟨rfl, rfl, rfl, by decide +kernel, rfl, by decide +kernel, by decide +kernel⟩
abbrev s_no_worths : Stmt := topS 45
theorem sc_no_worths : FnScope [] [] (defScope s_no_worths) := ⟨rfl, rfl, rfl, by decide +kernel, rfl, by decide +kernel, by decide +kernel⟩
abbrev s_House___init__ : Stmt := inClass (topS 48) 0
theorem sc_House___init__ : FnScope ["self", "me", "many"] ["self", "me", "many"] (defScope s_House___init__) := ⟨rfl, rfl, rfl, by decide +kernel, rfl, by decide +kernel, by decide +kernel⟩
abbrev s_House_do : Stmt := inClass (topS 48) 1
theorem sc_House_do : FnScope ["self", "word", "key", "worth"] ["self", "word", "key", "worth"] (defScope s_House_do) := ⟨rfl, rfl, rfl, by decide +kernel, rfl, by decide +kernel, by decide +kernel⟩
abbrev s_House_back : Stmt := inClass (topS 48) 2
theorem sc_House_back : FnScope ["self", "house", "number", "deed"] ["self", "house", "number"] (defScope s_House_back) := ⟨rfl, rfl, rfl, by decide +kernel, rfl, by decide +kernel, by decide +kernel⟩
abbrev s_House_seal : Stmt := inClass (topS 48) 3
theorem sc_House_seal : FnScope ["self"] ["self"] (defScope s_House_seal) := ⟨rfl, rfl, rfl, by decide +kernel, rfl, by decide +kernel, by decide +kernel⟩
abbrev s_House_bye : Stmt := inClass (topS 48) 4
theorem sc_House_bye : FnScope ["self"] ["self"] (defScope s_House_bye) := ⟨rfl, rfl, rfl, by decide +kernel, rfl, by decide +kernel, by decide +kernel⟩
abbrev s_House_take : Stmt := inClass (topS 48) 5
theorem sc_House_take : FnScope ["self", "deeds", "at", "deed", "new"] ["self", "deeds"] (defScope s_House_take) := ⟨rfl, rfl, rfl, by decide +kernel, rfl, by decide +kernel, by decide +kernel⟩
abbrev s_House_done : Stmt := inClass (topS 48) 6
theorem sc_House_done : FnScope ["self"] ["self"] (defScope s_House_done) := ⟨rfl, rfl, rfl, by decide +kernel, rfl, by decide +kernel, by decide +kernel⟩
abbrev s_House_deeds : Stmt := inClass (topS 48) 7
theorem sc_House_deeds : FnScope ["self"] ["self"] (defScope s_House_deeds) := ⟨rfl, rfl, rfl, by decide +kernel, rfl, by decide +kernel, by decide +kernel⟩
abbrev s_House_cut_off : Stmt := inClass (topS 48) 8
theorem sc_House_cut_off : FnScope ["self"] ["self"] (defScope s_House_cut_off) := ⟨rfl, rfl, rfl, by decide +kernel, rfl, by decide +kernel, by decide +kernel⟩
abbrev s_House_worths : Stmt := inClass (topS 48) 9
theorem sc_House_worths : FnScope ["self"] ["self"] (defScope s_House_worths) := ⟨rfl, rfl, rfl, by decide +kernel, rfl, by decide +kernel, by decide +kernel⟩
abbrev s_House_alive : Stmt := inClass (topS 48) 10
theorem sc_House_alive : FnScope ["self"] ["self"] (defScope s_House_alive) := ⟨rfl, rfl, rfl, by decide +kernel, rfl, by decide +kernel, by decide +kernel⟩
abbrev s_House_byes : Stmt := inClass (topS 48) 11
theorem sc_House_byes : FnScope ["self"] ["self"] (defScope s_House_byes) := ⟨rfl, rfl, rfl, by decide +kernel, rfl, by decide +kernel, by decide +kernel⟩
abbrev s_House_lacks : Stmt := inClass (topS 48) 12
theorem sc_House_lacks : FnScope ["self", "rows"] ["self", "rows"] (defScope s_House_lacks) := ⟨rfl, rfl, rfl, by decide +kernel, rfl, by decide +kernel, by decide +kernel⟩
abbrev s_House_gives : Stmt := inClass (topS 48) 13
theorem sc_House_gives : FnScope ["self", "rows", "deed"] ["self", "rows"] (defScope s_House_gives) := ⟨rfl, rfl, rfl, by decide +kernel, rfl, by decide +kernel, by decide +kernel⟩
abbrev s_House_gave_up : Stmt := inClass (topS 48) 14
theorem sc_House_gave_up : FnScope ["self", "rows"] ["self", "rows"] (defScope s_House_gave_up) := ⟨rfl, rfl, rfl, by decide +kernel, rfl, by decide +kernel, by decide +kernel⟩
abbrev s_House_now : Stmt := inClass (topS 48) 15
theorem sc_House_now : FnScope ["self"] ["self"] (defScope s_House_now) := ⟨rfl, rfl, rfl, by decide +kernel, rfl, by decide +kernel, by decide +kernel⟩
abbrev s_House_number : Stmt := inClass (topS 48) 16
theorem sc_House_number : FnScope ["self"] ["self"] (defScope s_House_number) := ⟨rfl, rfl, rfl, by decide +kernel, rfl, by decide +kernel, by decide +kernel⟩
abbrev s_House_count : Stmt := inClass (topS 48) 17
theorem sc_House_count : FnScope ["self"] ["self"] (defScope s_House_count) := ⟨rfl, rfl, rfl, by decide +kernel, rfl, by decide +kernel, by decide +kernel⟩
abbrev s_House_unheard : Stmt := inClass (topS 48) 18
theorem sc_House_unheard : FnScope ["self", "top"] ["self", "top"] (defScope s_House_unheard) := ⟨rfl, rfl, rfl, by decide +kernel, rfl, by decide +kernel, by decide +kernel⟩
abbrev s_House_cut_to : Stmt := inClass (topS 48) 19
theorem sc_House_cut_to : FnScope ["self", "top"] ["self", "top"] (defScope s_House_cut_to) := ⟨rfl, rfl, rfl, by decide +kernel, rfl, by decide +kernel, by decide +kernel⟩
abbrev s_House_carried : Stmt := inClass (topS 48) 20
theorem sc_House_carried : FnScope ["self"] ["self"] (defScope s_House_carried) := ⟨rfl, rfl, rfl, by decide +kernel, rfl, by decide +kernel, by decide +kernel⟩
abbrev s_House_merge : Stmt := inClass (topS 48) 21
theorem sc_House_merge : FnScope ["self", "told"] ["self", "told"] (defScope s_House_merge) := ⟨rfl, rfl, rfl, by decide +kernel, rfl, by decide +kernel, by decide +kernel⟩
abbrev s_House__do_next : Stmt := inClass (topS 48) 22
theorem sc_House__do_next : FnScope ["self", "what", "deed"] ["self", "what"] (defScope s_House__do_next) := ⟨rfl, rfl, rfl, by decide +kernel, rfl, by decide +kernel, by decide +kernel⟩
abbrev s_House__meet : Stmt := inClass (topS 48) 23
theorem sc_House__meet : FnScope ["self", "new", "deed"] ["self", "new"] (defScope s_House__meet) := ⟨rfl, rfl, rfl, by decide +kernel, rfl, by decide +kernel, by decide +kernel⟩
abbrev s_House__drop_gone : Stmt := inClass (topS 48) 24
theorem sc_House__drop_gone : FnScope ["self", "deeds"] ["self", "deeds"] (defScope s_House__drop_gone) := ⟨rfl, rfl, rfl, by decide +kernel, rfl, by decide +kernel, by decide +kernel⟩
abbrev s_House__is_sealed : Stmt := inClass (topS 48) 25
theorem sc_House__is_sealed : FnScope ["self", "house", "number", "seals", "deed", "seal"] ["self", "house", "number"] (defScope s_House__is_sealed) := ⟨rfl, rfl, rfl, by decide +kernel, rfl, by decide +kernel, by decide +kernel⟩
abbrev s_House__is_heard : Stmt := inClass (topS 48) 26
theorem sc_House__is_heard : FnScope ["self", "maker", "top"] ["self", "maker", "top"] (defScope s_House__is_heard) := ⟨rfl, rfl, rfl, by decide +kernel, rfl, by decide +kernel, by decide +kernel⟩
abbrev s_law_dice : Stmt := topS 50
theorem sc_law_dice : FnScope ["_law_script", "_law_mixed", "_law_cell"] ["_law_script"] (defScope s_law_dice) := ⟨rfl, rfl, rfl, by decide +kernel, rfl, by decide +kernel, by decide +kernel⟩
abbrev s_law_next : Stmt := topS 51
theorem sc_law_next : FnScope ["_law_dice_here", "_law_many", "_law_found", "_law_cell"] ["_law_dice_here", "_law_many"] (defScope s_law_next) := ⟨rfl, rfl, rfl, by decide +kernel, rfl, by decide +kernel, by decide +kernel⟩
abbrev s_law_like : Stmt := topS 52
theorem sc_law_like : FnScope ["_law_found", "_law_due", "_law_k"] ["_law_found", "_law_due"] (defScope s_law_like) := ⟨rfl, rfl, rfl, by decide +kernel, rfl, by decide +kernel, by decide +kernel⟩
abbrev s_law_rows : Stmt := topS 53
theorem sc_law_rows : FnScope ["_law_d", "_law_houses", "_law_far", "_law_most", "_law_found", "_law_k", "_law_first", "_law_wide"] ["_law_d", "_law_houses", "_law_far", "_law_most"] (defScope s_law_rows) := ⟨rfl, rfl, rfl, by decide +kernel, rfl, by decide +kernel, by decide +kernel⟩
abbrev s_law_names : Stmt := topS 54
theorem sc_law_names : FnScope ["_law_rows_here", "_law_found", "_law_house", "_law_first", "_law_last", "_law_number"] ["_law_rows_here"] (defScope s_law_names) := ⟨rfl, rfl, rfl, by decide +kernel, rfl, by decide +kernel, by decide +kernel⟩
abbrev s_law_told_rows : Stmt := topS 55
theorem sc_law_told_rows : FnScope ["_law_names_here", "_law_found", "_law_house", "_law_number"] ["_law_names_here"] (defScope s_law_told_rows) := ⟨rfl, rfl, rfl, by decide +kernel, rfl, by decide +kernel, by decide +kernel⟩
abbrev s_law_stamp : Stmt := topS 56
theorem sc_law_stamp : FnScope ["_law_deed"] ["_law_deed"] (defScope s_law_stamp) := ⟨rfl, rfl, rfl, by decide +kernel, rfl, by decide +kernel, by decide +kernel⟩
abbrev s_law_sorted : Stmt := topS 57
theorem sc_law_sorted : FnScope ["_law_deeds", "_law_known", "_law_deed", "_law_stamp_here"] ["_law_deeds"] (defScope s_law_sorted) := ⟨rfl, rfl, rfl, by decide +kernel, rfl, by decide +kernel, by decide +kernel⟩
abbrev s_law_has : Stmt := topS 58
theorem sc_law_has : FnScope ["_law_rows_here", "_law_name", "_law_row"] ["_law_rows_here", "_law_name"] (defScope s_law_has) := ⟨rfl, rfl, rfl, by decide +kernel, rfl, by decide +kernel, by decide +kernel⟩
abbrev s_law_is_void : Stmt := topS 59
theorem sc_law_is_void : FnScope ["_law_deeds", "_law_back", "_law_name", "_law_deed"] ["_law_deeds", "_law_back"] (defScope s_law_is_void) := ⟨rfl, rfl, rfl, by decide +kernel, rfl, by decide +kernel, by decide +kernel⟩
abbrev s_law_marks : Stmt := topS 60
theorem sc_law_marks : FnScope ["_law_deeds", "_law_found", "_law_some", "_law_deed", "_law_backs", "_law_name", "_law_mine", "_law_back"] ["_law_deeds"] (defScope s_law_marks) := ⟨rfl, rfl, rfl, by decide +kernel, rfl, by decide +kernel, by decide +kernel⟩
abbrev s_law_alive : Stmt := topS 61
theorem sc_law_alive : FnScope ["_law_deeds", "_law_marks_here", "_law_deed"] ["_law_deeds"] (defScope s_law_alive) := ⟨rfl, rfl, rfl, by decide +kernel, rfl, by decide +kernel, by decide +kernel⟩
abbrev s_law_worths : Stmt := topS 62
theorem sc_law_worths : FnScope ["_law_deeds", "_law_found", "_law_house", "_law_number", "_law_time", "_law_what"] ["_law_deeds"] (defScope s_law_worths) := ⟨rfl, rfl, rfl, by decide +kernel, rfl, by decide +kernel, by decide +kernel⟩
abbrev s_law_real : Stmt := topS 63
theorem sc_law_real : FnScope ["_law_d", "_law_houses", "_law_seen", "_law_every", "_law_turn", "_law_me", "_law_other", "_law_kind", "_law_deed", "_law_some", "_law_what", "_law_number", "_law_house", "_law_one"] ["_law_d"] (defScope s_law_real) := ⟨rfl, rfl, rfl, by decide +kernel, rfl, by decide +kernel, by decide +kernel⟩
abbrev s_law_letters : Stmt := topS 64
theorem sc_law_letters : FnScope ["_law_d", "_law_me", "_law_deeds", "_law_left", "_law_found", "_law_mine", "_law_k", "_law_deed"] ["_law_d", "_law_me", "_law_deeds"] (defScope s_law_letters) := ⟨rfl, rfl, rfl, by decide +kernel, rfl, by decide +kernel, by decide +kernel⟩
abbrev s_law_is : Stmt := topS 65
theorem sc_law_is : FnScope ["_law_house", "_law_book", "_law_time", "_law_rows_here", "_law_deeds", "_law_due", "_law_lacking", "_law_given", "_law_name", "_law_deed"] ["_law_house", "_law_book", "_law_time", "_law_rows_here"] (defScope s_law_is) := ⟨rfl, rfl, rfl, by decide +kernel, rfl, by decide +kernel, by decide +kernel⟩
abbrev s_law : Stmt := topS 66
theorem sc_law : FnScope ["_law_script", "_law_d", "_law_many", "_law_me", "_law_deed", "_law_deeds", "_law_far", "_law_k", "_law_number", "_law_house", "_law_book", "_law_time", "_law_letter", "_law_found", "_law_due", "_law_last", "_law_rows_here", "_law_name"] ["_law_script"] (defScope s_law) := ⟨rfl, rfl, rfl, by decide +kernel, rfl, by decide +kernel, by decide +kernel⟩
end Rw
namespace Rw
open PySem L2
/-! ### the refusals' readers, of what is right -/
def LIM : Int := 1000000000000
def spIsNumber : Sp := fun vs H Q _ => ∃ v lo hi : Int, vs = [.int v, .int lo, .int hi] ∧ Q (.bl (decide (lo ≤ v ∧ v ≤ hi))) H
def spIsHouse : Sp := fun vs H Q _ => ∃ v : Int, vs = [.int v] ∧ Q (.bl (decide (0 ≤ v ∧ v ≤ 7))) H
/-- a row as it may be handed in -/
def RowOk (r : Row) : Prop := 0 ≤ r.1 ∧ r.1 ≤ 7 ∧ 1 ≤ r.2.1 ∧ r.2.1 ≤ r.2.2 ∧ r.2.2 ≤ LIM
def spIsRow : Sp := fun vs H Q _ => ∃ (v : V) (r : Row), vs = [v] ∧ kRow.is H v r ∧ RowOk r ∧ Q (.bl true) H
def RowsOk (rs : List Row) : Prop := rs.length ≤ 200 ∧ ∀ r ∈ rs, RowOk r
def spFirstWrong : Sp := fun vs H Q _ => ∃ (v : V) (rs : List Row), vs = [v] ∧ (kL kRow).is H v rs ∧ RowsOk rs ∧ ∀ H', Same H H' → Q .non H'
structure TxA (mg : Str → Option Value) : Prop where
  isinst : mg "isinstance" = none
  int : mg "int" = none
  bool : mg "bool" = none
  tuple : mg "tuple" = none
  len : mg "len" = none
  enum : mg "enumerate" = none
  last : ∃ t, mg "LAST_HOUSE" = some (.int 7 t)
  lim : ∃ t, mg "LIMIT" = some (.int LIM t)
  most : ∃ t, mg "MOST_ROWS" = some (.int 200 t)
section
variable {P : Program} {w : World} {K : PySem.W.Frag} {mg : Str → Option Value} {base : Heap}
theorem ok_is_number {f : Addr} {fd : FuncData} (F : Fun K "is_number" "is_number" s_is_number f fd) (T : TxA mg) : FnOk P w K mg base CX0 1 f fd ["value", "low", "high"] spIsNumber := by
  refine F.ok sc_is_number (fun vs H Q E h => ?_) (fun cdv A outer s H vs Q E hr h => ?_)
  · obtain ⟨v, lo, hi, rfl, _⟩ := h
    rfl
  · obtain ⟨v, lo, hi, rfl, q⟩ := h
    refine ⟨_, pss_one (ps_ret (pe_and (pe_callB call_isi (by rfl) T.isinst (by decide +kernel) (pa_cons (pv 0) (pa_cons (pe_bty (by rfl) T.int bt_int) pa_nil)))
      (pe_and (pe_not (pe_callB call_isi (by rfl) T.isinst (by decide +kernel) (pa_cons (pv 0) (pa_cons (pe_bty (by rfl) T.bool bt_bool) pa_nil))))
      (pe_one (pe_chain op_le op_le (pv 1) (pv 0) (pv 2)))))), ?_⟩
    refine ⟨_, rfl, _, .ty "int", _, _, _, rfl, .ty _, tyx_int _, kit_ii, true, rfl, iteT ?_⟩
    refine ⟨_, rfl, _, .ty "bool", _, _, _, rfl, .ty _, tyx_int _, kit_ib, false, rfl, true, rfl, iteT ?_⟩
    refine ⟨_, rfl, _, rfl, _, _, rfl, rfl, _, rfl, ite2 (fun h1 => ?_) (fun h1 => ?_)⟩
    · have h1 := of_decide_eq_true h1
      refine ⟨_, rfl, _, _, rfl, rfl, ?_⟩
      have e : decide (v ≤ hi) = decide (lo ≤ v ∧ v ≤ hi) := by
        by_cases z : v ≤ hi
        · rw [decide_eq_true z, decide_eq_true ⟨h1, z⟩]
        · rw [decide_eq_false z, decide_eq_false fun q => z q.2]
      rw [← e] at q
      exact q
    · have h1' : ¬ lo ≤ v := fun z => h1 (decide_eq_true z)
      rw [decide_eq_false fun q => h1' q.1] at q
      exact q
theorem ok_is_house {f : Addr} {fd : FuncData} (F : Fun K "is_house" "is_house" s_is_house f fd) (T : TxA mg) (CN : Cal P w K mg base 1 "is_number" ["value", "low", "high"] spIsNumber) : FnOk P w K mg base CX0 2 f fd ["value"] spIsHouse := by
  obtain ⟨f1, fd1, G1, g1, kp1, b1⟩ := CN
  obtain ⟨t7, h7⟩ := T.last
  refine F.ok sc_is_house (fun vs H Q E h => ?_) (fun cdv A outer s H vs Q E hr h => ?_)
  · obtain ⟨v, rfl, _⟩ := h
    rfl
  · obtain ⟨v, rfl, q⟩ := h
    refine ⟨_, pss_one (ps_ret (pe_call G1 hr (by rfl) g1 kp1 b1 .nil pass0 (pa_cons (pv 0) (pa_cons pe_int (pa_cons (pe_glob (v := .int 7) (by rfl) h7 ⟨_, rfl⟩) pa_nil))))), ?_⟩
    exact ⟨_, rfl, v, 0, 7, rfl, q⟩
theorem ok_is_row {f : Addr} {fd : FuncData} (F : Fun K "is_row" "is_row" s_is_row f fd) (T : TxA mg) (CN : Cal P w K mg base 1 "is_number" ["value", "low", "high"] spIsNumber) (CH : Cal P w K mg base 2 "is_house" ["value"] spIsHouse) : FnOk P w K mg base CX0 3 f fd ["row"] spIsRow := by
  obtain ⟨f1, fd1, G1, g1, kp1, b1⟩ := CN
  obtain ⟨f2, fd2, G2, g2, kp2, b2⟩ := CH
  obtain ⟨tl, hl⟩ := T.lim
  refine F.ok sc_is_row (fun vs H Q E h => ?_) (fun cdv A outer s H vs Q E hr h => ?_)
  · obtain ⟨v, r, rfl, _⟩ := h
    rfl
  · obtain ⟨v, r, rfl, ⟨t, rfl, ht⟩, ⟨r1, r2, r3, r4, r5⟩, q⟩ := h
    have hr1 : Room 1 _ := hr.mono (by decide)
    refine ⟨_, pss_cons (ps_if (PW.pt (pw_or (pt_not (pt_val (pe_callB call_isi (by rfl) T.isinst (by decide +kernel) (pa_cons (pv 0) (pa_cons (pe_bty (by rfl) T.tuple bt_tuple) pa_nil)))))
        (pw_or1 (pt_cmpR op_ne (pe_callB call_len (by rfl) T.len PySem.boot_len (pa_cons (pv 0) pa_nil)) pe_int (nomark _))))) (pss_one (ps_ret pe_bl)) pss_nil)
      (pss_cons (ps_asg (pv 0) (pg_tup (by rfl) (pgs_cons (pg_name (i := 1) sc_is_row.nd rfl (.inl rfl)) (pgs_cons (pg_name (i := 2) sc_is_row.nd rfl (.inl rfl)) (pgs_cons (pg_name (i := 3) sc_is_row.nd rfl (.inl rfl)) pgs_nil)))))
      (pss_one (ps_ret (pe_and (pe_call G2 hr (by rfl) g2 kp2 b2 .nil pass0 (pa_cons (pv 1) pa_nil))
        (pe_and (pe_call G1 hr1 (by rfl) g1 kp1 b1 .nil pass0 (pa_cons (pv 2) (pa_cons pe_int (pa_cons (pe_glob (v := .int LIM) (by rfl) hl ⟨_, rfl⟩) pa_nil))))
          (pe_one (pe_call G1 hr1 (by rfl) g1 kp1 b1 .nil pass0 (pa_cons (pv 3) (pa_cons (pv 2) (pa_cons (pe_glob (v := .int LIM) (by rfl) hl ⟨_, rfl⟩) pa_nil)))))))))), ?_⟩
    refine ⟨_, rfl, _, .ty "tuple", _, _, _, rfl, .ty _, tyx_tup ht, kit_tt, true, rfl, iteF ?_⟩
    refine ⟨_, rfl, _, 3, rfl, .inr ⟨_, SqT.of ht, rfl⟩, rfl, false, by decide, iteF ?_⟩
    refine ⟨_, rfl, _, _, rfl, SqT.of ht, rfl, _, _, rfl, _, _, rfl, _, _, rfl, rfl, ?_⟩
    refine ⟨_, rfl, r.1, rfl, _, rfl, ?_⟩
    rw [decide_eq_true ⟨r1, r2⟩]
    refine iteT ⟨_, rfl, r.2.1, 1, LIM, rfl, _, rfl, ?_⟩
    rw [decide_eq_true ⟨r3, Int.le_trans r4 r5⟩]
    refine iteT ⟨_, rfl, _, rfl, r.2.2, r.2.1, LIM, rfl, ?_⟩
    rw [decide_eq_true ⟨r4, r5⟩]
    exact q
end
end Rw
namespace Rw
open PySem L2
theorem mem_cut {xs : List V} {lo hi : Option Int} {i : Nat} {x : V} (h : (cutV xs lo hi)[i]? = some x) : x ∈ xs := by
  have h1 := List.mem_of_getElem? h
  unfold cutV at h1
  exact List.mem_of_mem_drop (List.mem_of_mem_take h1)
theorem kL_mem {α : Type} {k : Kd α} {F : Hp} {vs : List V} {xs : List α} (h : Paired (k.is F) vs xs) {v : V} (m : v ∈ vs) : ∃ x ∈ xs, k.is F v x := pr_mem h m
def spCheckRows : Sp := fun vs H Q _ => ∃ (v : V) (rs : List Row), vs = [v] ∧ (kL kRow).is H v rs ∧ RowsOk rs ∧ ∀ H', Same H H' → Q .non H'
def spCheckHouse : Sp := fun vs H Q _ => ∃ (h : Int), vs = [.int h] ∧ 0 ≤ h ∧ h ≤ 7 ∧ Q .non H
section
variable {P : Program} {w : World} {K : PySem.W.Frag} {mg : Str → Option Value} {base : Heap}
theorem ok_first_wrong {f : Addr} {fd : FuncData} (F : Fun K "first_wrong" "first_wrong" s_first_wrong f fd) (T : TxA mg) (CR : Cal P w K mg base 3 "is_row" ["row"] spIsRow) : FnOk P w K mg base CX0 4 f fd ["rows"] spFirstWrong := by
  obtain ⟨f1, fd1, G1, g1, kp1, b1⟩ := CR
  obtain ⟨tm, hm⟩ := T.most
  refine F.ok sc_first_wrong (fun vs H Q E h => ?_) (fun cdv A outer s H vs Q E hr h => ?_)
  · obtain ⟨v, rs, rfl, _⟩ := h
    rfl
  · obtain ⟨v, rs, rfl, ⟨a, xs, rfl, ha, hp⟩, ⟨hl, hok⟩, q⟩ := h
    have el : xs.length = rs.length := pr_len hp
    refine ⟨_, pss_cons (ps_for PassesOwn.never rfl (pi_enum (by rfl) T.enum (pa_cons (pe_slice sl_list (pv 0) po_none (po_some (pe_glob (v := .int 200) (by rfl) hm ⟨_, rfl⟩))) pa_nil))
          (pg_tup rfl (pgs_cons (pg_name (i := 1) sc_first_wrong.nd rfl (.inl rfl)) (pgs_cons (pg_name (i := 2) sc_first_wrong.nd rfl (.inl rfl)) pgs_nil)))
        (pss_one (ps_if (pt_not (pt_val (pe_call G1 hr (by rfl) g1 kp1 b1 .nil pass0 (pa_cons (pv 2) pa_nil)))) (pss_one (ps_ret (pv 1))) pss_nil)))
      (pss_one (ps_ret (pe_ifExp (pt_cmpR op_gt (pe_callB call_len (by rfl) T.len PySem.boot_len (pa_cons (pv 0) pa_nil)) (pe_glob (v := .int 200) (by rfl) hm ⟨_, rfl⟩) (nomark _))
        (pe_glob (v := .int 200) (by rfl) hm ⟨_, rfl⟩) pe_non))), ?_⟩
    refine ⟨_, rfl, 200, rfl, a, xs, rfl, SqL.of ha, fun p np => ?_⟩
    refine ⟨p, _, rfl, SqL.of upd_same, for_it (walk_enum (K := K) (a := p) (xs := cutV xs none (some 200))) (fun i σ H' => Same H H' ∧ SqL K H' p (cutV xs none (some 200)) ∧ ∃ x y, σ = [some (.ref a), x, y])
      ⟨same_upd np, SqL.of upd_same, none, none, rfl⟩ (fun _ _ _ _ h => h.2.1) ?_ ?_⟩
    · rintro i x σ H1 H2 hi ⟨s1, l1, x0, y0, rfl⟩ ⟨U, i', row, rfl, nU, rfl, ei, er⟩
      have s2 : Same H (upd H1 U (.tup [i', row])) := s1.trans (same_upd nU)
      obtain ⟨r, hr1, hr2⟩ := pr_mem hp (mem_cut er)
      refine ⟨U, _, rfl, SqT.of upd_same, rfl, i', [row], rfl, row, [], rfl, rfl, ?_⟩
      refine ⟨_, rfl, _, r, rfl, kRow.mono s2 hr2, hok r hr1, true, rfl, iteF ?_⟩
      exact ⟨s2, (same_upd nU).seq l1, _, _, rfl⟩
    · rintro σ H1 ⟨s1, l1, x0, y0, rfl⟩
      have la : H1 a = some (.lst xs) := s1 _ _ ha
      refine ⟨_, rfl, _, xs.length, rfl, .inl ⟨_, SqL.of la, rfl⟩, _, _, rfl, rfl, _, rfl, ?_⟩
      rw [decide_eq_false (show ¬ (xs.length : Int) > 200 by omega)]
      exact iteF (q _ s1)
theorem ok_check_rows {f : Addr} {fd : FuncData} (F : Fun K "check_rows" "check_rows" s_check_rows f fd) (CR : Cal P w K mg base 4 "first_wrong" ["rows"] spFirstWrong) : FnOk P w K mg base CX0 5 f fd ["rows"] spCheckRows := by
  obtain ⟨f1, fd1, G1, g1, kp1, b1⟩ := CR
  refine F.ok sc_check_rows (fun vs H Q E h => ?_) (fun cdv A outer s H vs Q E hr h => ?_)
  · obtain ⟨v, rs, rfl, _⟩ := h
    rfl
  · obtain ⟨v, rs, rfl, hv, hok, q⟩ := h
    refine ⟨_, pss_cons (ps_set (i := 1) sc_check_rows.nd rfl (.inl rfl) (pe_call G1 hr (by rfl) g1 kp1 b1 .nil pass0 (pa_cons (pv 0) pa_nil)))
      (pss_one (ps_if (pt_cmpR op_notN (pv 1) pe_non (nomark _)) (pss_one ps_never) pss_nil)), ?_⟩
    refine ⟨_, rfl, v, rs, rfl, hv, hok, fun H1 s1 => ?_⟩
    refine ⟨_, rfl, rfl, _, rfl, iteF ?_⟩
    exact q _ s1
end
end Rw
namespace Rw
open PySem L2
/-! ### a dict of points -/
structure DI (kvs : List (List Key × V)) (ps : List Pt) (g : Pt → Int) : Prop where
  keys : kvs.map (·.1) = ps.map kk
  nd : ps.Nodup
  val : ∀ p, valV kvs (kk p) = if p ∈ ps then some (.int (g p)) else none
theorem DI.nil (g : Pt → Int) : DI [] [] g := ⟨rfl, .nil, fun p => by simp [valV]⟩
theorem DI.put {kvs : List (List Key × V)} {ps : List Pt} {g : Pt → Int} (d : DI kvs ps g) (q : Pt) (z : Int) :
    ∃ ps', DI (putK kvs (kk q) (.int z)) ps' (fun p => if p = q then z else g p) ∧ (∀ p, p ∈ ps' ↔ p ∈ ps ∨ p = q) ∧ ps'.length ≤ ps.length + 1 := by
  have vals : ∀ p, valV (putK kvs (kk q) (.int z)) (kk p) = if p = q then some (.int z) else if p ∈ ps then some (.int (g p)) else none := fun p => by
    rw [valV_put]
    by_cases e : p = q
    · rw [if_pos (by rw [e]), if_pos e]
    · rw [if_neg (fun h => e (kk_inj h)), if_neg e, d.val p]
  by_cases m : q ∈ ps
  · refine ⟨ps, ⟨?_, d.nd, fun p => ?_⟩, fun p => ⟨.inl, fun h => h.elim id fun e => e ▸ m⟩, Nat.le_succ _⟩
    · have a : (kvs.any fun kv => decide (kv.1 = kk q)) = true := by rw [valV_any, d.val q, if_pos m]; rfl
      unfold putK
      rw [if_pos a, List.map_map, ← d.keys]
      refine List.map_congr_left fun kv _ => ?_
      by_cases e : kv.1 = kk q
      · simp only [Function.comp, if_pos e]
      · simp only [Function.comp, if_neg e]
    · rw [vals p]
      by_cases e : p = q
      · rw [if_pos e, if_pos (e ▸ m)]
        simp only [if_pos e]
      · simp only [if_neg e]
  · refine ⟨ps ++ [q], ⟨?_, ?_, fun p => ?_⟩, fun p => by simp, by simp⟩
    · rw [putK_new _ (by rw [d.val q, if_neg m]), List.map_append, List.map_append, d.keys]
      rfl
    · exact List.nodup_append.mpr ⟨d.nd, by simp, fun a ha b hb e => by rw [List.mem_singleton.mp hb] at e; exact m (e ▸ ha)⟩
    · rw [vals p]
      by_cases e : p = q
      · rw [if_pos e, if_pos (by rw [e]; simp)]
        simp only [if_pos e]
      · simp [e]
theorem putK_le (kvs : List (List Key × V)) (k : List Key) (v : V) : (putK kvs k v).length ≤ kvs.length + 1 := by
  unfold putK
  split
  · rw [List.length_map]; omega
  · rw [List.length_append]; simp
theorem DI.len {kvs : List (List Key × V)} {ps : List Pt} {g : Pt → Int} (d : DI kvs ps g) : kvs.length = ps.length := by
  have h := congrArg List.length d.keys
  rw [List.length_map, List.length_map] at h
  exact h
/-- what stands at a point, 0 where nothing does -/
theorem DI.get {kvs : List (List Key × V)} {ps : List Pt} {g : Pt → Int} (d : DI kvs ps g) (z : ∀ p, p ∉ ps → g p = 0) (p : Pt) : (valV kvs (kk p)).getD (.int 0) = .int (g p) := by
  rw [d.val p]
  by_cases m : p ∈ ps
  · rw [if_pos m]; rfl
  · rw [if_neg m, z p m]; rfl
theorem DI.congr {kvs : List (List Key × V)} {ps : List Pt} {g g' : Pt → Int} (d : DI kvs ps g) (h : ∀ p, g p = g' p) : DI kvs ps g' := by
  have e : g = g' := funext h
  rw [← e]; exact d
theorem chg_snoc (ws : List WRow) (r : Row) (z : Int) (p : Pt) : chg (ws ++ [(r, z)]) p = chg ws p + z * (ind (fstP r = p) - ind (endP r = p)) := by
  unfold chg
  rw [S_append]
  show _ + (z * (ind (fstP r = p) - ind (endP r = p)) + 0) = _
  omega
/-- what the program's dict of changes tells of weighed rows -/
structure ChD (kvs : List (List Key × V)) (ws : List WRow) : Prop where
  ex : ∃ ps : List Pt, DI kvs ps (chg ws) ∧ (∀ p, p ∉ ps → chg ws p = 0) ∧ Has ps ws ∧ ps.length ≤ 2 * ws.length
theorem ChD.nil : ChD [] [] := ⟨[], DI.nil _, fun _ _ => rfl, fun x h => absurd h (by simp), Nat.le_refl _⟩
/-- one row more: the two stores -/
theorem ChD.step {kvs : List (List Key × V)} {ws : List WRow} (c : ChD kvs ws) (r : Row) (z : Int) (hne : fstP r ≠ endP r) :
    ∃ v1 : Int, (valV kvs (kk (fstP r))).getD (.int 0) = .int v1 ∧ ∃ v2 : Int, (valV (putK kvs (kk (fstP r)) (.int (v1 + z))) (kk (endP r))).getD (.int 0) = .int v2 ∧
      ChD (putK (putK kvs (kk (fstP r)) (.int (v1 + z))) (kk (endP r)) (.int (v2 - z))) (ws ++ [(r, z)]) := by
  obtain ⟨ps, d, hz, hh, hl⟩ := c.ex
  refine ⟨chg ws (fstP r), d.get hz _, ?_⟩
  obtain ⟨ps1, d1, m1, l1⟩ := d.put (fstP r) (chg ws (fstP r) + z)
  have hz1 : ∀ p, p ∉ ps1 → (if p = fstP r then chg ws (fstP r) + z else chg ws p) = 0 := fun p hp => by
    have a : ¬ (p ∈ ps ∨ p = fstP r) := fun q => hp ((m1 p).mpr q)
    rw [if_neg fun e => a (.inr e)]
    exact hz p fun q => a (.inl q)
  have e2 : (if endP r = fstP r then chg ws (fstP r) + z else chg ws (endP r)) = chg ws (endP r) := if_neg fun e => hne e.symm
  refine ⟨chg ws (endP r), by rw [d1.get hz1, e2], ?_⟩
  obtain ⟨ps2, d2, m2, l2⟩ := d1.put (endP r) (chg ws (endP r) - z)
  have ev : ∀ p, (if p = endP r then chg ws (endP r) - z else if p = fstP r then chg ws (fstP r) + z else chg ws p) = chg (ws ++ [(r, z)]) p := fun p => by
    rw [chg_snoc]
    by_cases a : p = endP r
    · subst a
      rw [if_pos rfl, ind_pos (rfl : endP r = endP r), ind_neg hne]
      omega
    · rw [if_neg a, ind_neg (fun e => a e.symm : ¬ endP r = p)]
      by_cases b : p = fstP r
      · subst b
        rw [if_pos rfl, ind_pos (rfl : fstP r = fstP r)]
        omega
      · rw [if_neg b, ind_neg (fun e => b e.symm : ¬ fstP r = p)]
        omega
  refine ⟨ps2, d2.congr ev, fun p hp => ?_, fun x hx => ?_, ?_⟩
  · rw [← ev p]
    have a : ¬ (p ∈ ps1 ∨ p = endP r) := fun q => hp ((m2 p).mpr q)
    rw [if_neg fun e => a (.inr e)]
    exact hz1 p fun q => a (.inl q)
  · rcases List.mem_append.mp hx with hx | hx
    · obtain ⟨a, b⟩ := hh x hx
      exact ⟨(m2 _).mpr (.inl ((m1 _).mpr (.inl a))), (m2 _).mpr (.inl ((m1 _).mpr (.inl b)))⟩
    · rw [List.mem_singleton.mp hx]
      exact ⟨(m2 _).mpr (.inl ((m1 _).mpr (.inr rfl))), (m2 _).mpr (.inr rfl)⟩
  · rw [List.length_append, List.length_singleton]
    omega
def spChangesOf : Sp := fun vs H Q _ => ∃ (F : Hp) (v : V) (ws : List WRow), vs = [v] ∧ Same F H ∧ (kL kW).is F v ws ∧ Wok ws ∧ ws.length ≤ 1000000 ∧
  ∀ (H' : Hp) (d : Addr) (kvs : List (List Key × V)), Ext M0 F H F H' → H d = none → F d = none → H' d = some (.dT kvs) → ChD kvs ws → Q (.ref d) H'
section
variable {P : Program} {w : World} {K : PySem.W.Frag} {mg : Str → Option Value} {base : Heap}
theorem ok_changes_of {f : Addr} {fd : FuncData} (F0 : Fun K "changes_of" "changes_of" s_changes_of f fd) : FnOk P w K mg base CX0 1 f fd ["weighed"] spChangesOf := by
  refine F0.ok sc_changes_of (fun vs H Q E h => ?_) (fun cdv A outer s H vs Q E hr h => ?_)
  · obtain ⟨F, v, ws, rfl, _⟩ := h
    rfl
  · obtain ⟨F, v, ws, rfl, fh, ⟨a, xs, rfl, ha, hp⟩, hok, hlen, q⟩ := h
    have hu := hu_of hr
    refine ⟨_, pss_cons (ps_set (i := 1) sc_changes_of.nd rfl (.inl rfl) pe_dnewT)
      (pss_cons (ps_for PassesOwn.never rfl (pi_list (pv 0))
          (pg_tup rfl (pgs_cons (pg_tup rfl (pgs_cons (pg_name (i := 2) sc_changes_of.nd rfl (.inl rfl)) (pgs_cons (pg_name (i := 3) sc_changes_of.nd rfl (.inl rfl)) (pgs_cons (pg_name (i := 4) sc_changes_of.nd rfl (.inl rfl)) pgs_nil))))
            (pgs_cons (pg_name (i := 5) sc_changes_of.nd rfl (.inl rfl)) pgs_nil)))
        (pss_cons (ps_dput hu (pv 1) (pe_tup (pa_cons (pv 2) (pa_cons (pv 3) pa_nil))) (pe_op op_add (pe_dget2 hu (pv 1) (pe_tup (pa_cons (pv 2) (pa_cons (pv 3) pa_nil))) pe_int ⟨rfl, rfl, rfl, rfl⟩) (pv 5)) rfl)
          (pss_one (ps_dput hu (pv 1) (pe_tup (pa_cons (pv 2) (pa_cons (pe_op op_add (pv 4) pe_int) pa_nil))) (pe_op op_sub (pe_dget2 hu (pv 1) (pe_tup (pa_cons (pv 2) (pa_cons (pe_op op_add (pv 4) pe_int) pa_nil))) pe_int ⟨rfl, rfl, rfl, rfl⟩) (pv 5)) rfl))))
      (pss_one (ps_ret (pv 1)))), ?_⟩
    intro d nd
    have fd0 : F d = none := fh.free nd
    refine ⟨_, rfl, a, rfl, ⟨xs, SqL.of ((same_upd nd) _ _ (fh _ _ ha))⟩, for_list (K := K) (a := a) (xs := xs) (fun i σ H1 => ∃ kvs y2 y3 y4 y5, σ = [some (.ref a), some (.ref d), y2, y3, y4, y5] ∧ Ext M0 F H F H1 ∧ H1 d = some (.dT kvs) ∧ ChD kvs (ws.take i))
      ⟨[], none, none, none, none, rfl, (Ext.refl fh).put (.inl nd) fd0, upd_same, ChD.nil⟩ (fun i σ H1 _ ⟨_, _, _, _, _, _, X1, _, _⟩ => SqL.of (X1.fh _ _ ha)) ?_ ?_⟩
    · rintro i x σ H1 hi ⟨kvs, y2, y3, y4, y5, rfl, X1, hd, hc⟩
      obtain ⟨⟨r, z⟩, hri, t, u, rfl, ht, ⟨t2, rfl, ht2⟩⟩ := pr_get hp hi
      have hro := hok _ (List.mem_of_getElem? hri)
      have hne : fstP r ≠ endP r := fun e => by
        have e2 := congrArg Prod.snd e
        simp only [fstP, endP] at e2
        simp only at hro
        omega
      obtain ⟨v1, e1, v2, e2, hc2⟩ := hc.step r z hne
      have hlen2 : ∀ {kvs : List (List Key × V)} {n : Nat}, ChD kvs (ws.take n) → kvs.length < sizeLine - 2 := fun {kvs n} c => by
        obtain ⟨ps, dd, _, _, l⟩ := c.ex
        have l2 : (ws.take n).length ≤ ws.length := List.length_take_le' n ws
        rw [dd.len, sizeLine_eq]
        omega
      have hk := hlen2 hc
      refine ⟨t, _, rfl, SqT.of (X1.fh _ _ ht), rfl, _, _, rfl, t2, _, rfl, SqT.of (X1.fh _ _ ht2), rfl, _, _, rfl, _, _, rfl, _, _, rfl, rfl, _, _, rfl, rfl, ?_⟩
      -- changes[house, first] = changes.get((house, first), 0) + weight
      refine ⟨_, rfl, d, rfl, .inr ⟨kvs, .inl hd⟩, _, rfl, _, rfl, (by show 2 ≤ sizeLine; decide), fun k1 nk1 => ?_⟩
      have dk1 : d ≠ k1 := ne_of_none hd nk1
      have hd1 : upd H1 k1 (.tup [.int r.1, .int r.2.1]) d = some (.dT kvs) := by rw [upd_ne dk1]; exact hd
      refine ⟨_, DGet.t (k := kk (fstP r)) hd1 upd_same, _, rfl, v1, z, e1, rfl, _, rfl, _, rfl, _, rfl, (by show 2 ≤ sizeLine; decide), fun k2 nk2 => ?_⟩
      have dk2 : d ≠ k2 := ne_of_none hd1 nk2
      have hd2 : upd (upd H1 k1 (.tup [.int r.1, .int r.2.1])) k2 (.tup [.int r.1, .int r.2.1]) d = some (.dT kvs) := by rw [upd_ne dk2]; exact hd1
      refine ⟨d, _, rfl, DPut.t (k := kk (fstP r)) hd2 upd_same (by omega), ?_⟩
      have X2 := (((X1.tmp (o := .tup [.int r.1, .int r.2.1]) nk1).tmp (o := .tup [.int r.1, .int r.2.1]) nk2).put (o := .dT (putK kvs (kk (fstP r)) (.int (v1 + z)))) (.inl nd) fd0)
      have hd3 : upd (upd (upd H1 k1 (.tup [.int r.1, .int r.2.1])) k2 (.tup [.int r.1, .int r.2.1])) d (.dT (putK kvs (kk (fstP r)) (.int (v1 + z)))) d = some (.dT (putK kvs (kk (fstP r)) (.int (v1 + z)))) := upd_same
      revert hd3 X2
      generalize upd (upd (upd H1 k1 (.tup [.int r.1, .int r.2.1])) k2 (.tup [.int r.1, .int r.2.1])) d (.dT (putK kvs (kk (fstP r)) (.int (v1 + z)))) = H2
      intro X2 hd3
      -- changes[house, last + 1] = changes.get((house, last + 1), 0) - weight
      refine ⟨_, rfl, d, rfl, .inr ⟨_, .inl hd3⟩, _, rfl, _, rfl, _, _, rfl, rfl, (by show 2 ≤ sizeLine; decide), fun k3 nk3 => ?_⟩
      have dk3 : d ≠ k3 := ne_of_none hd3 nk3
      have hd4 : upd H2 k3 (.tup [.int r.1, .int (r.2.2 + 1)]) d = some (.dT (putK kvs (kk (fstP r)) (.int (v1 + z)))) := by rw [upd_ne dk3]; exact hd3
      refine ⟨_, DGet.t (k := kk (endP r)) hd4 upd_same, _, rfl, v2, z, e2, rfl, _, rfl, _, rfl, _, rfl, _, _, rfl, rfl, (by show 2 ≤ sizeLine; decide), fun k4 nk4 => ?_⟩
      have dk4 : d ≠ k4 := ne_of_none hd4 nk4
      have hd5 : upd (upd H2 k3 (.tup [.int r.1, .int (r.2.2 + 1)])) k4 (.tup [.int r.1, .int (r.2.2 + 1)]) d = some (.dT (putK kvs (kk (fstP r)) (.int (v1 + z)))) := by rw [upd_ne dk4]; exact hd4
      have lp : (putK kvs (kk (fstP r)) (.int (v1 + z))).length ≤ kvs.length + 1 := putK_le _ _ _
      refine ⟨d, _, rfl, DPut.t (k := kk (endP r)) hd5 upd_same (by omega), ?_⟩
      refine ⟨_, _, _, _, _, rfl, (((X2.tmp nk3).tmp nk4).put (.inl nd) fd0), upd_same, ?_⟩
      rw [List.take_add_one, hri]
      exact hc2
    · rintro σ H1 ⟨kvs, y2, y3, y4, y5, rfl, X1, hd, hc⟩
      refine ⟨_, rfl, q H1 d kvs X1 nd fd0 hd ?_⟩
      rw [pr_len hp, List.take_length] at hc
      exact hc
end
end Rw
namespace Rw
open PySem L2
theorem same_put {G H : Hp} {p : Addr} {o : HO} (s : Same G H) (g : G p = none) : Same G (upd H p o) := fun b u e => by
  rw [upd_ne (ne_of_none e g)]
  exact s b u e
/-- all but one place -/
def but (H : Hp) (o : Addr) : Hp := fun b => if b = o then none else H b
theorem but_same {H : Hp} {o : Addr} : Same (but H o) H := fun b u e => by
  unfold but at e
  by_cases h : b = o
  · rw [if_pos h] at e; cases e
  · rw [if_neg h] at e; exact e
theorem but_self {H : Hp} {o : Addr} : but H o o = none := if_pos rfl
theorem but_at {H : Hp} {o b : Addr} (h : b ≠ o) : but H o b = H b := if_neg h
theorem kPt_but {H : Hp} {o : Addr} {xs : List V} (ho : H o = some (.lst xs)) {v : V} {p : Pt} (h : kPt.is H v p) : kPt.is (but H o) v p := by
  obtain ⟨t, e, ht⟩ := h
  exact ⟨t, e, by rw [but_at (ne_of ht ho (by intro z; cases z))]; exact ht⟩
def sweepM (ws : List WRow) (least : Int) (ks : List Pt) : St := ks.foldl (stepM (chg ws) least) ⟨[], 0, 0⟩
theorem stepM_out (ch : Pt → Int) (least : Int) (s : St) (k : Pt) : (stepM ch least s k).out.length ≤ s.out.length + 1 := by
  unfold stepM
  split
  · exact Nat.le_succ _
  · split
    · simp
    · exact Nat.le_succ _
theorem sweepM_snoc (ws : List WRow) (least : Int) (ks : List Pt) (k : Pt) : sweepM ws least (ks ++ [k]) = stepM (chg ws) least (sweepM ws least ks) k := by
  unfold sweepM
  rw [List.foldl_append]
  rfl
theorem sweepM_len (ws : List WRow) (least : Int) (ks : List Pt) : (sweepM ws least ks).out.length ≤ ks.length := by
  have key : ∀ (ks : List Pt) (s : St), (ks.foldl (stepM (chg ws) least) s).out.length ≤ s.out.length + ks.length := by
    intro ks
    induction ks with
    | nil => intro s; exact Nat.le_refl _
    | cons k ks ih =>
      intro s
      have h1 := ih (stepM (chg ws) least s k)
      have h2 := stepM_out (chg ws) least s k
      rw [List.foldl_cons, List.length_cons]
      omega
  have h := key ks ⟨[], 0, 0⟩
  simp only [List.length_nil, Nat.zero_add] at h
  exact h
/-- what the sweep tells -/
structure Told (ws : List WRow) (least : Int) (out : List Row) : Prop where
  can : Canon out
  mem : ∀ p, mem out p ↔ least ≤ cover ws p
def spReaching : Sp := fun vs H Q _ => ∃ (F : Hp) (v : V) (ws : List WRow) (least : Int), vs = [v, .int least] ∧ Same F H ∧ (kL kW).is F v ws ∧ Wok ws ∧ ws.length ≤ 1000000 ∧ 0 < least ∧ RetL M0 F H kRow (Told ws least) Q
structure TxB (mg : Str → Option Value) : Prop where
  sorted : mg "sorted" = none
section
variable {P : Program} {w : World} {K : PySem.W.Frag} {mg : Str → Option Value} {base : Heap}
theorem ok_reaching {f : Addr} {fd : FuncData} (F0 : Fun K "reaching" "reaching" s_reaching f fd) (T : TxB mg) (CC : Cal P w K mg base 1 "changes_of" ["weighed"] spChangesOf) : FnOk P w K mg base CX0 2 f fd ["weighed", "least"] spReaching := by
  obtain ⟨f1, fd1, G1, g1, kp1, b1⟩ := CC
  refine F0.ok sc_reaching (fun vs H Q E h => ?_) (fun cdv A outer s H vs Q E hr h => ?_)
  · obtain ⟨F, v, ws, least, rfl, _⟩ := h
    rfl
  · obtain ⟨F, v, ws, least, rfl, fh, hv, hok, hlen, hle, q⟩ := h
    have hu := hu_of hr
    refine ⟨_, pss_cons (ps_set (i := 2) sc_reaching.nd rfl (.inl rfl) (pe_call G1 hr (by rfl) g1 kp1 b1 .nil pass0 (pa_cons (pv 0) pa_nil)))
      (pss_cons (ps_set (i := 3) sc_reaching.nd rfl (.inl rfl) (pe_lst pa_nil))
      (pss_cons (ps_set (i := 4) sc_reaching.nd rfl (.inl rfl) pe_int)
      (pss_cons (ps_set (i := 5) sc_reaching.nd rfl (.inl rfl) pe_int)
      (pss_cons (ps_for PassesOwn.never rfl (pi_list (pe_callB (cr_sortedDT (by rfl)) (by rfl) T.sorted (by decide +kernel) (pa_cons (pv 2) pa_nil)))
          (pg_tup rfl (pgs_cons (pg_name (i := 6) sc_reaching.nd rfl (.inl rfl)) (pgs_cons (pg_name (i := 7) sc_reaching.nd rfl (.inl rfl)) pgs_nil)))
        (pss_cons (ps_set (i := 8) sc_reaching.nd rfl (.inl rfl) (pv 4))
        (pss_cons (ps_set (i := 4) sc_reaching.nd rfl (.inl rfl) (pe_op op_add (pv 8) (pe_dget hu (pv 2) (pe_tup (pa_cons (pv 6) (pa_cons (pv 7) pa_nil))) (fun _ _ => rfl))))
        (pss_one (ps_if (pt_chain op_lt op_le (pv 8) (pv 1) (pv 4)) (pss_one (ps_set (i := 5) sc_reaching.nd rfl (.inl rfl) (pv 7)))
          (pss_one (ps_if (pt_chain op_lt op_le (pv 4) (pv 1) (pv 8))
            (pss_one (ps_expr (pe_bm PySem.F.plainAttrs_list PySem.F.slot_list_append PySem.F.type_list_append mt_append (pv 3) (pa_cons (pe_tup (pa_cons (pv 6) (pa_cons (pv 5) (pa_cons (pe_op op_sub (pv 7) pe_int) pa_nil)))) pa_nil)))) pss_nil)))))))
      (pss_one (ps_ret (pv 3))))))), ?_⟩
    refine ⟨_, rfl, F, v, ws, rfl, fh, hv, hok, hlen, fun H1 d kvs X1 nd fd hd hc => ?_⟩
    refine ⟨Nat.zero_le _, fun o no => ?_⟩
    have X2 := X1.tmp (o := .lst []) no
    have dno : d ≠ o := ne_of_none hd no
    have hd2 : upd H1 o (.lst []) d = some (.dT kvs) := by rw [upd_ne dno]; exact hd
    have ho2 : upd H1 o (.lst []) o = some (.lst []) := upd_same
    have Ho : H o = none := X1.free no
    have Fo : F o = none := X1.ffree no
    revert X2 hd2 ho2
    generalize upd H1 o (.lst []) = H2
    intro X2 hd2 ho2
    obtain ⟨ps, dd, hz, hh, hl⟩ := hc.ex
    refine ⟨_, rfl, d, kvs, ps, rfl, hd2, dd.keys, dd.nd, fun ys qs p hys hperm hsort np => ?_⟩
    have pno : o ≠ p := ne_of_none ho2 np
    have dnp : d ≠ p := ne_of_none hd2 np
    have X3 := X2.tmp (o := .lst ys) np
    have ho3 : upd H2 p (.lst ys) o = some (.lst []) := by rw [upd_ne pno]; exact ho2
    have hd3 : upd H2 p (.lst ys) d = some (.dT kvs) := by rw [upd_ne dnp]; exact hd2
    have hp3 : upd H2 p (.lst ys) p = some (.lst ys) := upd_same
    have hys3 : Paired (kPt.is (but (upd H2 p (.lst ys)) o)) ys qs := pr_mono (fun _ _ r => kPt_but ho3 (kPt.mono (same_upd np) r)) hys
    revert X3 ho3 hd3 hp3 hys3
    generalize upd H2 p (.lst ys) = H3
    intro X3 ho3 hd3 hp3 hys3
    have gd : but H3 o d = some (.dT kvs) := by rw [but_at dno]; exact hd3
    have gp : but H3 o p = some (.lst ys) := by rw [but_at pno.symm]; exact hp3
    have go : but H3 o o = none := but_self
    have gs : Same (but H3 o) H3 := but_same
    revert gd gp go gs hys3
    generalize but H3 o = G
    intro hys3 gd gp go gs
    have lq : qs.length ≤ 2 * ws.length := by rw [hperm.length_eq]; exact hl
    refine ⟨p, rfl, ⟨ys, SqL.of (gs _ _ gp)⟩, for_list (K := K) (a := p) (xs := ys) (fun i σ H' => ∃ F' outs y6 y7 y8, σ = [some v, some (.int least), some (.ref d), some (.ref o), some (.int (sweepM ws least (qs.take i)).total), some (.int (sweepM ws least (qs.take i)).start), y6, y7, y8] ∧
        Ext M0 F H F' H' ∧ Same G H' ∧ F' o = none ∧ H' o = some (.lst outs) ∧ Paired (kRow.is F') outs (sweepM ws least (qs.take i)).out)
      ⟨F, [], none, none, none, rfl, X3, gs, Fo, ho3, .nil⟩ (fun i σ H' _ ⟨_, _, _, _, _, _, _, s1, _⟩ => SqL.of (s1 _ _ gp)) ?_ ?_⟩
    · rintro i x σ H' hi ⟨F', outs, y6, y7, y8, rfl, X4, s4, fo, hout, hpr⟩
      obtain ⟨k, hk, t, rfl, ht⟩ := pr_get hys3 hi
      have kps : k ∈ ps := hperm.mem_iff.mp (List.mem_of_getElem? hk)
      have hval : valV kvs (kk k) = some (.int (chg ws k)) := by rw [dd.val k, if_pos kps]
      have hst : sweepM ws least (qs.take (i + 1)) = stepM (chg ws) least (sweepM ws least (qs.take i)) k := by
        rw [List.take_add_one, hk, ← sweepM_snoc]
        rfl
      have hlo : outs.length ≤ 2 * ws.length := by
        have h1 := sweepM_len ws least (qs.take i)
        have h2 : (qs.take i).length ≤ qs.length := List.length_take_le' i qs
        rw [pr_len hpr]
        omega
      revert hpr hst
      generalize sweepM ws least (qs.take i) = st
      intro hpr hst
      refine ⟨t, _, rfl, SqT.of (s4 _ _ ht), rfl, _, _, rfl, _, _, rfl, rfl, ?_⟩
      refine ⟨_, rfl, _, rfl, _, rfl, _, rfl, _, rfl, (by show 2 ≤ sizeLine; decide), fun k1 nk1 => ?_⟩
      have hd4 : H' d = some (.dT kvs) := s4 _ _ gd
      have dk1 : d ≠ k1 := ne_of_none hd4 nk1
      have ok1 : o ≠ k1 := ne_of_none hout nk1
      have e5 : upd H' k1 (.tup [.int k.1, .int k.2]) d = some (.dT kvs) := by rw [upd_ne dk1]; exact hd4
      refine ⟨d, _, rfl, hval ▸ DGet.t (k := kk k) e5 upd_same, _, _, rfl, rfl, ?_⟩
      have X5 := X4.tmp (o := .tup [.int k.1, .int k.2]) nk1
      have s5 : Same G (upd H' k1 (.tup [.int k.1, .int k.2])) := s4.trans (same_upd nk1)
      have ho5 : upd H' k1 (.tup [.int k.1, .int k.2]) o = some (.lst outs) := by rw [upd_ne ok1]; exact hout
      revert X5 s5 ho5
      generalize upd H' k1 (.tup [.int k.1, .int k.2]) = H5
      intro X5 s5 ho5
      by_cases c1 : st.total < least
      · by_cases c2 : least ≤ st.total + chg ws k
        · have es : sweepM ws least (qs.take (i + 1)) = ⟨st.out, st.total + chg ws k, k.2⟩ := by rw [hst]; unfold stepM; rw [if_pos ⟨c1, c2⟩]
          refine ⟨_, rfl, _, rfl, _, _, rfl, rfl, _, rfl, ?_⟩
          rw [decide_eq_true c1]
          refine iteT ⟨_, rfl, _, _, rfl, rfl, _, rfl, ?_⟩
          rw [decide_eq_true c2]
          refine iteT ⟨_, rfl, F', outs, some (.int k.1), some (.int k.2), some (.int st.total), ?_, X5, s5, fo, ho5, ?_⟩
          · rw [es]; rfl
          · rw [es]; exact hpr
        · have es : sweepM ws least (qs.take (i + 1)) = ⟨st.out, st.total + chg ws k, st.start⟩ := by
            rw [hst]; unfold stepM; rw [if_neg (fun z => c2 z.2), if_neg (fun z => absurd z.2 (by omega))]
          refine ⟨_, rfl, _, rfl, _, _, rfl, rfl, _, rfl, ?_⟩
          rw [decide_eq_true c1]
          refine iteT ⟨_, rfl, _, _, rfl, rfl, _, rfl, ?_⟩
          rw [decide_eq_false c2]
          refine iteF ⟨_, rfl, _, rfl, _, _, rfl, rfl, _, rfl, ?_⟩
          rw [decide_eq_true (show st.total + chg ws k < least by omega)]
          refine iteT ⟨_, rfl, _, _, rfl, rfl, _, rfl, ?_⟩
          rw [decide_eq_false (show ¬ least ≤ st.total by omega)]
          refine iteF ⟨F', outs, some (.int k.1), some (.int k.2), some (.int st.total), ?_, X5, s5, fo, ho5, ?_⟩
          · rw [es]; rfl
          · rw [es]; exact hpr
      · by_cases c2 : st.total + chg ws k < least
        · have es : sweepM ws least (qs.take (i + 1)) = ⟨st.out ++ [(k.1, st.start, k.2 - 1)], st.total + chg ws k, st.start⟩ := by
            rw [hst]; unfold stepM; rw [if_neg (fun z => c1 z.1), if_pos ⟨c2, by omega⟩]
          refine ⟨_, rfl, _, rfl, _, _, rfl, rfl, _, rfl, ?_⟩
          rw [decide_eq_false c1]
          refine iteF ⟨_, rfl, iteF ⟨_, rfl, _, rfl, _, _, rfl, rfl, _, rfl, ?_⟩⟩
          rw [decide_eq_true c2]
          refine iteT ⟨_, rfl, _, _, rfl, rfl, _, rfl, ?_⟩
          rw [decide_eq_true (show least ≤ st.total by omega)]
          refine iteT ⟨_, rfl, .inl ⟨rfl, _, SqL.of ho5⟩, _, rfl, _, rfl, _, rfl, _, _, rfl, rfl, (by show 3 ≤ sizeLine; decide), fun t6 nt6 => ?_⟩
          have ot6 : o ≠ t6 := ne_of_none ho5 nt6
          refine ⟨o, outs, _, rfl, rfl, by rw [upd_ne ot6]; exact ho5, by rw [sizeLine_eq]; omega, ?_⟩
          have fo6 : upd F' t6 (.tup [.int k.1, .int st.start, .int (k.2 - 1)]) o = none := by rw [upd_ne ot6]; exact fo
          refine ⟨upd F' t6 (.tup [.int k.1, .int st.start, .int (k.2 - 1)]), outs ++ [.ref t6], some (.int k.1), some (.int k.2), some (.int st.total), ?_, (X5.lay nt6).put (.inl Ho) fo6, same_put (s5.trans (same_upd nt6)) go, fo6, upd_same, ?_⟩
          · rw [es]; rfl
          · rw [es]
            exact pr_snoc (pr_mono (fun _ _ r => kRow.mono (same_upd (X5.ffree nt6)) r) hpr) ⟨t6, rfl, upd_same⟩
        · have es : sweepM ws least (qs.take (i + 1)) = ⟨st.out, st.total + chg ws k, st.start⟩ := by
            rw [hst]; unfold stepM; rw [if_neg (fun z => c1 z.1), if_neg (fun z => c2 z.1)]
          refine ⟨_, rfl, _, rfl, _, _, rfl, rfl, _, rfl, ?_⟩
          rw [decide_eq_false c1]
          refine iteF ⟨_, rfl, iteF ⟨_, rfl, _, rfl, _, _, rfl, rfl, _, rfl, ?_⟩⟩
          rw [decide_eq_false c2]
          refine iteF ⟨_, rfl, iteF ⟨F', outs, some (.int k.1), some (.int k.2), some (.int st.total), ?_, X5, s5, fo, ho5, ?_⟩⟩
          · rw [es]; rfl
          · rw [es]; exact hpr
    · rintro σ H' ⟨F', outs, y6, y7, y8, rfl, X4, s4, fo, hout, hpr⟩
      rw [pr_len hys3, List.take_length] at hpr
      obtain ⟨a1, a2⟩ := sweep hle hok hsort (fun x hx => ⟨hperm.mem_iff.mpr (hh x hx).1, hperm.mem_iff.mpr (hh x hx).2⟩) 0
      refine ⟨_, rfl, q F' H' o outs _ X4 Ho fo hout hpr ⟨a1, a2⟩⟩
end
end Rw
namespace Rw
open PySem L2
/-! ### how long what is told can be; its rows are rows -/
theorem nodup_sub {α : Type} [DecidableEq α] : ∀ (l D : List α), l.Nodup → (∀ x ∈ l, x ∈ D) → l.length ≤ D.length
  | [], _, _, _ => Nat.zero_le _
  | x :: l, D, hn, h => by
    have h1 := List.nodup_cons.mp hn
    have hx := h x List.mem_cons_self
    have ih := nodup_sub l (D.erase x) h1.2 fun y hy => by
      have ne : y ≠ x := fun e => h1.1 (e ▸ hy)
      exact (List.mem_erase_of_ne ne).mpr (h y (List.mem_cons_of_mem _ hy))
    rw [List.length_erase_of_mem hx] at ih
    have : 0 < D.length := List.length_pos_of_mem hx
    rw [List.length_cons]
    omega
theorem S_drop {f g : Row → Int} : ∀ {ws : List WRow}, S f ws < S g ws → ∃ x ∈ ws, x.2 * f x.1 < x.2 * g x.1
  | [], h => by simp [S] at h
  | (r, w) :: ws, h => by
    by_cases c : w * f r < w * g r
    · exact ⟨_, List.mem_cons_self, c⟩
    · have h' : w * f r + S f ws < w * g r + S g ws := h
      obtain ⟨x, hx, e⟩ := S_drop (f := f) (g := g) (ws := ws) (by omega)
      exact ⟨x, List.mem_cons_of_mem _ hx, e⟩
/-- where a weighed row can end a told one -/
def stopP (x : WRow) : Pt := if 0 < x.2 then endP x.1 else fstP x.1
theorem Canon.ends {out : List Row} (c : Canon out) : (out.map endP).Nodup := by
  refine List.pairwise_map.mpr (c.ord.imp_of_mem fun {r s} hr hs b e => ?_)
  have o := c.ok s hs
  have e1 := congrArg Prod.fst e
  have e2 := congrArg Prod.snd e
  unfold endP at e1 e2
  simp only at e1 e2
  unfold before at b
  omega
theorem Canon.gap {out : List Row} (c : Canon out) {r : Row} (hr : r ∈ out) : ¬ mem out (endP r) := by
  rintro ⟨s, hs, i1, i2, i3⟩
  unfold endP at i1 i2 i3
  simp only at i1 i2 i3
  rcases Classical.em (r = s) with e | e
  · subst e; omega
  · have key : before r s ∨ before s r := by
      obtain ⟨i, hi, ei⟩ := List.getElem_of_mem hr
      obtain ⟨j, hj, ej⟩ := List.getElem_of_mem hs
      have p := List.pairwise_iff_getElem.mp c.ord
      rcases Nat.lt_trichotomy i j with l | l | l
      · exact .inl (by have := p i j hi hj l; rw [ei, ej] at this; exact this)
      · subst l; exact absurd (ei.symm.trans ej) e
      · exact .inr (by have := p j i hj hi l; rw [ei, ej] at this; exact this)
    have o := c.ok r hr
    have o2 := c.ok s hs
    unfold before at key
    omega
theorem Canon.last {out : List Row} (c : Canon out) {r : Row} (hr : r ∈ out) : mem out (r.1, r.2.2) := ⟨r, hr, rfl, c.ok r hr, Int.le_refl _⟩
theorem Canon.first {out : List Row} (c : Canon out) {r : Row} (hr : r ∈ out) : mem out (r.1, r.2.1) := ⟨r, hr, rfl, Int.le_refl _, c.ok r hr⟩
theorem Told.len {ws : List WRow} {least : Int} {out : List Row} (t : Told ws least out) : out.length ≤ ws.length := by
  have h := nodup_sub (out.map endP) (ws.map stopP) t.can.ends fun p hp => by
    obtain ⟨r, hr, rfl⟩ := List.mem_map.mp hp
    have a := (t.mem _).mp (t.can.last hr)
    have b : ¬ least ≤ cover ws (endP r) := fun z => t.can.gap hr ((t.mem _).mpr z)
    obtain ⟨x, hx, e⟩ := S_drop (f := fun s => ind (inRow s (endP r))) (g := fun s => ind (inRow s (r.1, r.2.2))) (ws := ws) (by unfold cover at a b; omega)
    refine List.mem_map.mpr ⟨x, hx, ?_⟩
    obtain ⟨s, w⟩ := x
    simp only at e
    unfold stopP
    rcases ind_or (inRow s (endP r)) with ⟨u1, e1⟩ | ⟨u1, e1⟩ <;> rcases ind_or (inRow s (r.1, r.2.2)) with ⟨u2, e2⟩ | ⟨u2, e2⟩ <;> rw [e1, e2] at e
    · omega
    · rw [if_neg (show ¬ 0 < w by omega)]
      unfold inRow endP at u1
      unfold inRow at u2
      unfold fstP endP
      simp only at u1 u2 ⊢
      exact Prod.ext (by simp only; omega) (by simp only; omega)
    · rw [if_pos (show 0 < w by omega)]
      unfold inRow endP at u1
      unfold inRow at u2
      unfold endP
      simp only at u1 u2 ⊢
      exact Prod.ext (by simp only; omega) (by simp only; omega)
    · omega
  rw [List.length_map, List.length_map] at h
  exact h
def InBox (p : Pt) : Prop := 0 ≤ p.1 ∧ p.1 ≤ 7 ∧ 1 ≤ p.2 ∧ p.2 ≤ LIM
theorem RowOk.box {r : Row} (h : RowOk r) {p : Pt} (i : inRow r p) : InBox p := by
  obtain ⟨a, b, c, d, e⟩ := h
  obtain ⟨i1, i2, i3⟩ := i
  unfold InBox
  omega
theorem rows_box {rs : List Row} (h : ∀ r ∈ rs, RowOk r) {p : Pt} (m : mem rs p) : InBox p := by
  obtain ⟨r, hr, i⟩ := m
  exact (h r hr).box i
theorem canon_ok {out : List Row} (c : Canon out) (h : ∀ p, mem out p → InBox p) : ∀ r ∈ out, RowOk r := fun r hr => by
  have a := h _ (c.last hr)
  have b := h _ (c.first hr)
  have o := c.ok r hr
  unfold InBox at a b
  unfold RowOk
  simp only at a b
  omega
/-! ### what the sums come to -/
def once (rs : List Row) : List WRow := rs.map fun r => (r, 1)
theorem cover_once (rs : List Row) (p : Pt) : 0 ≤ cover (once rs) p ∧ (1 ≤ cover (once rs) p ↔ mem rs p) := by
  induction rs with
  | nil => exact ⟨Int.le_refl _, fun h => absurd h (by show ¬ (1 : Int) ≤ 0; omega), fun h => absurd h mem_nil⟩
  | cons r rs ih =>
    have e : cover (once (r :: rs)) p = 1 * ind (inRow r p) + cover (once rs) p := rfl
    rw [e, mem_cons]
    rcases ind_or (inRow r p) with ⟨u, eu⟩ | ⟨u, eu⟩ <;> rw [eu]
    · exact ⟨by omega, fun _ => .inl u, fun _ => by omega⟩
    · refine ⟨by omega, fun h => .inr (ih.2.mp (by omega)), fun h => ?_⟩
      have := ih.2.mpr (h.resolve_left u)
      omega
instance (rs : List Row) (p : Pt) : Decidable (mem rs p) := by unfold mem; infer_instance
/-- of a canonical list each point is covered at most once -/
theorem cover_canon {rs : List Row} (c : Canon rs) (p : Pt) : cover (once rs) p = ind (mem rs p) := by
  induction rs with
  | nil => exact (ind_neg mem_nil).symm
  | cons r rs ih =>
    have e : cover (once (r :: rs)) p = 1 * ind (inRow r p) + cover (once rs) p := rfl
    rw [e, ih c.tail]
    rcases ind_or (inRow r p) with ⟨u, eu⟩ | ⟨u, eu⟩ <;> rw [eu]
    · have n : ¬ mem rs p := fun m => by
        have := c.later m
        obtain ⟨i1, i2, i3⟩ := u
        omega
      rw [ind_neg n, ind_pos (mem_cons.mpr (.inl u))]
      omega
    · by_cases m : mem rs p
      · rw [ind_pos m, ind_pos (mem_cons.mpr (.inr m))]; omega
      · rw [ind_neg m, ind_neg (fun z => (mem_cons.mp z).elim u m)]; omega
end Rw
namespace Rw
open PySem L2
/-! ### loops of comprehensions, by a walk -/
theorem it_by {J : It} {n : Nat} {G : Hp → Prop} {Y : Nat → Hp → V → Hp → Prop} (w : Walk J n G Y) {B : (Hp → Prop) → V → Hp → Prop} {H0 : Hp} {Qd : Hp → Prop} (Pv : Nat → Hp → Prop) (h0 : Pv 0 H0)
    (hG : ∀ i H, i ≤ n → Pv i H → G H) (hs : ∀ i x H H', i < n → Pv i H → Y i H x H' → B (Pv (i + 1)) x H') (hd : ∀ H, Pv n H → Qd H) :
    ∃ W : Nat → Nat → Hp → Prop, (∃ m, W 0 m H0) ∧ ∀ i m H, W i m H →
      (J.stop i H ∧ Qd H) ∨ (J.go i H ∧ ∃ Nx : Hp → Prop, (∀ H', Nx H' → ∃ m', m' < m ∧ W (i + 1) m' H') ∧ ∀ x H', J.yld i H x H' → B Nx x H') := by
  refine ⟨fun i m H => m = n - i ∧ i ≤ n ∧ Pv i H, ⟨n, by simp, Nat.zero_le _, h0⟩, ?_⟩
  rintro i m H ⟨rfl, hi, p⟩
  have g := hG i H hi p
  by_cases c : i < n
  · exact .inr ⟨w.goes i H c g, Pv (i + 1), fun H' p' => ⟨n - (i + 1), by omega, rfl, c, p'⟩, fun x H' y => hs i x H H' c p (w.yields i H x H' c g y)⟩
  · obtain rfl : i = n := by omega
    exact .inl ⟨w.stops H g, hd H p⟩
theorem RetL.step {α : Type} {M : Addr → Prop} {F H F1 H1 : Hp} {k : Kd α} {φ ψ : List α → Prop} {Q : VK} (X : Ext M F H F1 H1) (q : RetL M F H k ψ Q) (h : ∀ xs, φ xs → ψ xs) : RetL M0 F1 H1 k φ Q :=
  fun F' H' a vs xs X' ha fa hl hp hx => q F' H' a vs xs (X.trans X'.up) (X.free ha) fa hl hp (h xs hx)
/-- how many of some sets hold a point -/
def cnt : List (List Row) → Pt → Int
  | [], _ => 0
  | rs :: sets, p => ind (mem rs p) + cnt sets p
def total : List (List Row) → Nat
  | [] => 0
  | rs :: sets => rs.length + total sets
theorem cnt_snoc (p : Pt) (rs : List Row) : ∀ sets : List (List Row), cnt (sets ++ [rs]) p = cnt sets p + ind (mem rs p)
  | [] => by show ind _ + 0 = 0 + ind _; omega
  | x :: sets => by
    show ind _ + cnt (sets ++ [rs]) p = ind _ + cnt sets p + ind _
    rw [cnt_snoc p rs sets]; omega
theorem total_snoc (rs : List Row) : ∀ sets : List (List Row), total (sets ++ [rs]) = total sets + rs.length
  | [] => by show rs.length + 0 = 0 + rs.length; omega
  | x :: sets => by
    show x.length + total (sets ++ [rs]) = x.length + total sets + rs.length
    rw [total_snoc rs sets]; omega
theorem total_take (sets : List (List Row)) (i : Nat) : total (sets.take i) ≤ total sets := by
  induction sets generalizing i with
  | nil => simp [total]
  | cons x sets ih =>
    cases i with
    | zero => simp [total]
    | succ i =>
      have := ih i
      show x.length + total (sets.take i) ≤ x.length + total sets
      omega
def Valid (rs : List Row) : Prop := ∀ r ∈ rs, r.2.1 ≤ r.2.2
theorem wok_once {rs : List Row} (h : Valid rs) : Wok (once rs) := fun x hx => by
  obtain ⟨r, hr, rfl⟩ := List.mem_map.mp hx
  exact h r hr
structure Fewest (rs out : List Row) : Prop where
  can : Canon out
  mem : ∀ p, mem out p ↔ mem rs p
  len : out.length ≤ rs.length
def spFewest : Sp := fun vs H Q _ => ∃ (F : Hp) (v : V) (rs : List Row), vs = [v] ∧ Same F H ∧ (kL kRow).is F v rs ∧ Valid rs ∧ rs.length ≤ 100000 ∧ RetL M0 F H kRow (Fewest rs) Q
structure Held (sets : List (List Row)) (least : Int) (out : List Row) : Prop where
  can : Canon out
  mem : ∀ p, mem out p ↔ least ≤ cnt sets p
  len : out.length ≤ total sets
def spHeld : Sp := fun vs H Q _ => ∃ (F : Hp) (v : V) (sets : List (List Row)) (least : Int), vs = [v, .int least] ∧ Same F H ∧ (kL (kL kRow)).is F v sets ∧ (∀ rs ∈ sets, Valid rs) ∧ total sets ≤ 100000 ∧ 0 < least ∧ RetL M0 F H kRow (Held sets least) Q
structure Without (one other out : List Row) : Prop where
  can : Canon out
  mem : ∀ p, mem out p ↔ mem one p ∧ ¬ mem other p
  len : out.length ≤ one.length + other.length
def spWithout : Sp := fun vs H Q _ => ∃ (F : Hp) (v u : V) (one other : List Row), vs = [v, u] ∧ Same F H ∧ (kL kRow).is F v one ∧ (kL kRow).is F u other ∧ Valid one ∧ Valid other ∧ one.length ≤ 50000 ∧ other.length ≤ 50000 ∧ RetL M0 F H kRow (Without one other) Q
theorem once_len (rs : List Row) : (once rs).length = rs.length := List.length_map ..
theorem told_fewest {rs out : List Row} (t : Told (once rs) 1 out) : Fewest rs out := ⟨t.can, fun p => (t.mem p).trans (cover_once rs p).2, by have := t.len; rw [once_len] at this; exact this⟩
section
variable {P : Program} {w : World} {K : PySem.W.Frag} {mg : Str → Option Value} {base : Heap}
theorem ok_fewest {f : Addr} {fd : FuncData} (F0 : Fun K "fewest" "fewest" s_fewest f fd) (CR : Cal P w K mg base 2 "reaching" ["weighed", "least"] spReaching) : FnOk P w K mg base CX0 3 f fd ["rows"] spFewest := by
  obtain ⟨f1, fd1, G1, g1, kp1, b1⟩ := CR
  refine F0.ok sc_fewest (fun vs H Q E h => ?_) (fun cdv A outer s H vs Q E hr h => ?_)
  · obtain ⟨F, v, rs, rfl, _⟩ := h
    rfl
  · obtain ⟨F, v, rs, rfl, fh, ⟨a, xs, rfl, ha, hp⟩, hval, hlen, q⟩ := h
    refine ⟨_, pss_one (ps_ret (pe_call G1 hr (by rfl) g1 kp1 b1 .nil pass0 (pa_cons (pe_lc (own := [("row", 1)]) (g := gName 1) (tt := tYes) (by rfl) sc_fewest.nd (pi_list (pv 0))
      (blkOk_by (own := [("row", 1)]) (N := ["rows", "row"]) (sc := defScope s_fewest) (by decide +kernel)) (fun _ _ _ _ _ => pg_name (i := 1) sc_fewest.nd rfl (Or.inl rfl)) (fun _ _ _ _ _ => pts_nil)
      (fun _ _ _ _ _ => pe_tup (pa_cons (pv 1) (pa_cons pe_int pa_nil)))) (pa_cons pe_int pa_nil)))), ?_⟩
    refine ⟨_, rfl, a, rfl, ⟨_, SqL.of (fh _ _ ha)⟩, fun D nD => ?_⟩
    have fD : F D = none := fh.free nD
    refine it_by (walk_list (K := K) (a := a) (xs := xs)) (fun i H' => ∃ F' acc, Ext M0 F H F' H' ∧ H' D = some (.lst acc) ∧ F' D = none ∧ Paired (kW.is F') acc (once (rs.take i)))
      ⟨F, [], (Ext.refl fh).tmp nD, upd_same, fD, .nil⟩ (fun i H' _ ⟨_, _, X1, _⟩ => SqL.of (X1.fh _ _ (X1.ff _ _ ha))) ?_ ?_
    · rintro i x H1 _ hi ⟨F', acc, X1, hD, fD', hacc⟩ ⟨rfl, hx⟩
      obtain ⟨r, hri, hr1⟩ := pr_get hp hx
      refine ⟨rfl, ?_⟩
      refine ⟨_, rfl, (by show 2 ≤ sizeLine; decide), fun t nt => ?_⟩
      have Dt : D ≠ t := ne_of_none hD nt
      have la : acc.length ≤ rs.length := by rw [pr_len hacc, once_len]; exact List.length_take_le' i rs
      refine ⟨acc, by rw [upd_ne Dt]; exact hD, by rw [sizeLine_eq]; omega, ?_⟩
      have fD2 : upd F' t (.tup [x, .int 1]) D = none := by rw [upd_ne Dt]; exact fD'
      refine ⟨upd F' t (.tup [x, .int 1]), acc ++ [.ref t], (X1.lay nt).put (.inl nD) fD2, upd_same, fD2, ?_⟩
      rw [List.take_add_one, hri]
      have e : once (rs.take i ++ [r]) = once (rs.take i) ++ [(r, 1)] := List.map_append ..
      show Paired _ _ (once (rs.take i ++ [r]))
      rw [e]
      have sm : Same F' (upd F' t (.tup [x, .int 1])) := same_upd (X1.ffree nt)
      exact pr_snoc (pr_mono (fun _ _ z => kW.mono sm z) hacc) ⟨t, x, rfl, upd_same, kRow.mono (X1.ff.trans sm) hr1⟩
    · rintro H1 ⟨F', acc, X1, hD, fD', hacc⟩
      rw [pr_len hp, List.take_length] at hacc
      have X2 := X1.frz nD fD' hD
      refine ⟨upd F' D (.lst acc), .ref D, once rs, 1, rfl, X2.fh, kL_new fD' hacc, wok_once hval, by rw [once_len]; omega, by decide, RetL.step X2 q fun out t => told_fewest t⟩
end
end Rw
namespace Rw
open PySem L2
theorem kLL_get {α : Type} {k : Kd α} {F : Hp} {vs : List V} {xss : List (List α)} {i : Nat} {v : V} (h : Paired ((kL k).is F) vs xss) (e : vs[i]? = some v) : ∃ xs, xss[i]? = some xs ∧ (kL k).is F v xs := pr_get h e
theorem cover_append (as bs : List WRow) (p : Pt) : cover (as ++ bs) p = cover as p + cover bs p := S_append _ as bs
theorem wok_append {as bs : List WRow} (h : Wok as) (h' : Wok bs) : Wok (as ++ bs) := fun x hx => (List.mem_append.mp hx).elim (h x) (h' x)
theorem once_snoc (rs : List Row) (r : Row) : once (rs ++ [r]) = once rs ++ [(r, 1)] := List.map_append ..
theorem valid_canon {rs : List Row} (c : Canon rs) : Valid rs := c.ok
def anti (rs : List Row) : List WRow := rs.map fun r => (r, -1)
theorem cover_anti (rs : List Row) (p : Pt) : cover (anti rs) p = - cover (once rs) p := by
  induction rs with
  | nil => rfl
  | cons r rs ih =>
    have e1 : cover (anti (r :: rs)) p = -1 * ind (inRow r p) + cover (anti rs) p := rfl
    have e2 : cover (once (r :: rs)) p = 1 * ind (inRow r p) + cover (once rs) p := rfl
    rw [e1, e2, ih]; omega
theorem wok_anti {rs : List Row} (h : Valid rs) : Wok (anti rs) := fun x hx => by
  obtain ⟨r, hr, rfl⟩ := List.mem_map.mp hx
  exact h r hr
theorem told_without {one other kept out : List Row} (k : Fewest one kept) (t : Told (once kept ++ anti other) 1 out) : Without one other out := by
  refine ⟨t.can, fun p => ?_, ?_⟩
  · rw [t.mem p, cover_append, cover_anti, cover_canon k.can, ← k.mem p]
    have c := cover_once other p
    rcases ind_or (mem kept p) with ⟨u, eu⟩ | ⟨u, eu⟩ <;> rw [eu]
    · constructor
      · intro h; exact ⟨u, fun z => by have := c.2.mpr z; omega⟩
      · intro h
        have : ¬ 1 ≤ cover (once other) p := fun z => h.2 (c.2.mp z)
        omega
    · exact ⟨fun h => by omega, fun h => absurd h.1 u⟩
  · have h := t.len
    rw [List.length_append, once_len] at h
    have e : (anti other).length = other.length := List.length_map ..
    have := k.len
    omega
section
variable {P : Program} {w : World} {K : PySem.W.Frag} {mg : Str → Option Value} {base : Heap}
theorem ok_without {f : Addr} {fd : FuncData} (F0 : Fun K "without" "without" s_without f fd) (CR : Cal P w K mg base 2 "reaching" ["weighed", "least"] spReaching) (CF : Cal P w K mg base 3 "fewest" ["rows"] spFewest) :
    FnOk P w K mg base CX0 4 f fd ["one", "other"] spWithout := by
  obtain ⟨f1, fd1, G1, g1, kp1, b1⟩ := CR
  obtain ⟨f2, fd2, G2, g2, kp2, b2⟩ := CF
  refine F0.ok sc_without (fun vs H Q E h => ?_) (fun cdv A outer s H vs Q E hr h => ?_)
  · obtain ⟨F, v, u, one, other, rfl, _⟩ := h
    rfl
  · obtain ⟨F, v, u, one, other, rfl, fh, hv, ⟨b, ys, rfl, hb, hpb⟩, val1, val2, len1, len2, q⟩ := h
    have hr1 : Room 2 _ := hr.mono (by decide)
    refine ⟨_, pss_cons (ps_setLc (i := 2) (own := [("row", 4)]) (g := gName 4) (tt := tYes) (by rfl) sc_without.nd rfl rfl (sw_true rfl rfl rfl (by decide +kernel)) (pi_list (pe_call G2 hr (by rfl) g2 kp2 b2 .nil pass0 (pa_cons (pv 0) pa_nil)))
        (blkOk_by (own := [("row", 4)]) (N := ["one", "other", "kept", "barred", "row"]) (sc := defScope s_without) (by decide +kernel)) (fun _ _ _ _ _ => pg_name (i := 4) sc_without.nd rfl (Or.inl rfl)) (fun _ _ _ _ _ => pts_nil)
        (fun _ _ _ _ _ => pe_tup (pa_cons (pv 4) (pa_cons pe_int pa_nil))))
      (pss_cons (ps_setLc (i := 3) (own := [("row", 4)]) (g := gName 4) (tt := tYes) (by rfl) sc_without.nd rfl rfl (sw_true rfl rfl rfl (by decide +kernel)) (pi_list (pv 1))
        (blkOk_by (own := [("row", 4)]) (N := ["one", "other", "kept", "barred", "row"]) (sc := defScope s_without) (by decide +kernel)) (fun _ _ _ _ _ => pg_name (i := 4) sc_without.nd rfl (Or.inl rfl)) (fun _ _ _ _ _ => pts_nil)
        (fun _ _ _ _ _ => pe_tup (pa_cons (pv 4) (pa_cons (pe_un un_neg pe_int) pa_nil))))
      (pss_one (ps_ret (pe_call G1 hr1 (by rfl) g1 kp1 b1 .nil pass0 (pa_cons (pe_op op_cat (pv 2) (pv 3)) (pa_cons pe_int pa_nil)))))), ?_⟩
    have hr3 : Room 3 _ := hr.mono (by decide)
    refine ⟨_, rfl, F, v, one, rfl, fh, hv, val1, by omega, fun F1 H1 c vs out X1 nc fc hc hout fw => ?_⟩
    refine ⟨c, rfl, ⟨vs, SqL.of hc⟩, fun D nD => ?_⟩
    have HD : H D = none := X1.free nD
    have cD : c ≠ D := ne_of_none hc nD
    have lo : out.length ≤ 50000 := Nat.le_trans fw.len len1
    refine it_by (walk_list (K := K) (a := c) (xs := vs)) (fun i H' => ∃ F' acc, Ext M0 F H F' H' ∧ H' D = some (.lst acc) ∧ F' D = none ∧ H' c = some (.lst vs) ∧ Paired (kRow.is F') vs out ∧ Paired (kW.is F') acc (once (out.take i)))
      ⟨F1, [], X1.tmp nD, upd_same, X1.ffree nD, by rw [upd_ne cD]; exact hc, hout, .nil⟩ (fun i H' _ ⟨_, _, _, _, _, z, _⟩ => SqL.of z) ?_ ?_
    · rintro i x H2 _ hi ⟨F', acc, X2, hD, fD, hc2, hout2, hacc⟩ ⟨rfl, hx⟩
      obtain ⟨r, hri, hr2⟩ := pr_get hout2 hx
      refine ⟨rfl, _, rfl, (by show 2 ≤ sizeLine; decide), fun t nt => ?_⟩
      have Dt : D ≠ t := ne_of_none hD nt
      have ct : c ≠ t := ne_of_none hc2 nt
      have la : acc.length ≤ 50000 := by
        rw [pr_len hacc, once_len]
        have h1 := List.length_take_le' i out
        omega
      refine ⟨acc, by rw [upd_ne Dt]; exact hD, by rw [sizeLine_eq]; omega, ?_⟩
      have fD2 : upd F' t (.tup [x, .int 1]) D = none := by rw [upd_ne Dt]; exact fD
      have sm : Same F' (upd F' t (.tup [x, .int 1])) := same_upd (X2.ffree nt)
      refine ⟨upd F' t (.tup [x, .int 1]), acc ++ [.ref t], (X2.lay nt).put (.inl HD) fD2, upd_same, fD2, by rw [upd_ne cD, upd_ne ct]; exact hc2, pr_mono (fun _ _ z => kRow.mono sm z) hout2, ?_⟩
      have eo : once (out.take (i + 1)) = once (out.take i) ++ [(r, 1)] := by rw [List.take_add_one, hri]; exact once_snoc _ _
      rw [eo]
      exact pr_snoc (pr_mono (fun _ _ z => kW.mono sm z) hacc) ⟨t, x, rfl, upd_same, kRow.mono sm hr2⟩
    · rintro H2 ⟨F', acc, X2, hD, fD, hc2, hout2, hacc⟩
      rw [pr_len hout2, List.take_length] at hacc
      refine ⟨_, rfl, b, rfl, ⟨_, SqL.of (X2.fh _ _ (X2.ff _ _ hb))⟩, fun D2 nD2 => ?_⟩
      have HD2 : H D2 = none := X2.free nD2
      have DD : D ≠ D2 := ne_of_none hD nD2
      refine it_by (walk_list (K := K) (a := b) (xs := ys)) (fun i H' => ∃ F' acc2, Ext M0 F H F' H' ∧ H' D2 = some (.lst acc2) ∧ F' D2 = none ∧ H' D = some (.lst acc) ∧ F' D = none ∧ Paired (kW.is F') acc (once out) ∧ Paired (kW.is F') acc2 (anti (other.take i)))
        ⟨F', [], X2.tmp nD2, upd_same, X2.ffree nD2, by rw [upd_ne DD]; exact hD, fD, hacc, .nil⟩ (fun i H' _ ⟨_, _, z, _⟩ => SqL.of (z.fh _ _ (z.ff _ _ hb))) ?_ ?_
      · rintro i x H3 _ hi ⟨F3, acc2, X3, hD2, fD2, hD3, fD3, hacc3, hacc2⟩ ⟨rfl, hx⟩
        obtain ⟨r, hri, hr2⟩ := pr_get hpb hx
        refine ⟨rfl, _, rfl, 1, rfl, (by show 2 ≤ sizeLine; decide), fun t nt => ?_⟩
        have Dt : D2 ≠ t := ne_of_none hD2 nt
        have ct : D ≠ t := ne_of_none hD3 nt
        have la : acc2.length ≤ 50000 := by
          have e : (anti (other.take i)).length = (other.take i).length := List.length_map ..
          rw [pr_len hacc2, e]
          have h1 := List.length_take_le' i other
          omega
        refine ⟨acc2, by rw [upd_ne Dt]; exact hD2, by rw [sizeLine_eq]; omega, ?_⟩
        have fD4 : upd F3 t (.tup [x, .int (-1)]) D2 = none := by rw [upd_ne Dt]; exact fD2
        have sm : Same F3 (upd F3 t (.tup [x, .int (-1)])) := same_upd (X3.ffree nt)
        refine ⟨upd F3 t (.tup [x, .int (-1)]), acc2 ++ [.ref t], (X3.lay nt).put (.inl HD2) fD4, upd_same, fD4, by rw [upd_ne DD, upd_ne ct]; exact hD3, by rw [upd_ne ct]; exact fD3, pr_mono (fun _ _ z => kW.mono sm z) hacc3, ?_⟩
        have eo : anti (other.take (i + 1)) = anti (other.take i) ++ [(r, -1)] := by rw [List.take_add_one, hri]; exact List.map_append ..
        rw [eo]
        exact pr_snoc (pr_mono (fun _ _ z => kW.mono sm z) hacc2) ⟨t, x, rfl, upd_same, kRow.mono (X3.ff.trans sm) hr2⟩
      · rintro H3 ⟨F3, acc2, X3, hD2, fD2, hD3, fD3, hacc3, hacc2⟩
        rw [pr_len hpb, List.take_length] at hacc2
        have l1 : acc.length = out.length := by rw [pr_len hacc3, once_len]
        have l2 : acc2.length = other.length := by rw [pr_len hacc2]; exact List.length_map ..
        refine ⟨_, rfl, _, rfl, D, D2, acc, acc2, rfl, rfl, hD3, hD2, by rw [sizeLine_eq]; omega, fun p np => ?_⟩
        have X4 := X3.lay (o := .lst (acc ++ acc2)) np
        refine ⟨upd F3 p (.lst (acc ++ acc2)), .ref p, once out ++ anti other, 1, rfl, X4.fh, kL_new (X3.ffree np) (pr_append hacc3 hacc2), wok_append (wok_once (valid_canon fw.can)) (wok_anti val2), ?_, by decide, RetL.step X4 q fun o t => told_without fw t⟩
        have e : (anti other).length = other.length := List.length_map ..
        rw [List.length_append, once_len, e]
        omega
end
end Rw
namespace Rw
open PySem L2
theorem eqv_row (r s : Row) : PyData.eqv (dRow r) (dRow s) = decide (r = s) := by
  obtain ⟨a, b, c⟩ := r
  obtain ⟨a', b', c'⟩ := s
  unfold dRow
  simp only [PyData.eqv, PyData.eqvAll, Bool.and_true]
  by_cases e1 : a = a' <;> by_cases e2 : b = b' <;> by_cases e3 : c = c' <;> simp [e1, e2, e3]
theorem eqvAll_rows : ∀ xs ys : List Row, PyData.eqvAll (xs.map dRow) (ys.map dRow) = decide (xs = ys)
  | [], [] => rfl
  | [], _ :: _ => by simp [PyData.eqvAll]
  | _ :: _, [] => by simp [PyData.eqvAll]
  | x :: xs, y :: ys => by
    rw [List.map_cons, List.map_cons, PyData.eqvAll, eqv_row, eqvAll_rows xs ys]
    by_cases e1 : x = y <;> by_cases e2 : xs = ys <;> simp [e1, e2]
theorem eqv_rows (xs ys : List Row) : PyData.eqv (dL dRow xs) (dL dRow ys) = decide (xs = ys) := by
  unfold dL
  rw [PyData.eqv]
  exact eqvAll_rows xs ys
theorem canLay_rows : ∀ xs : List Row, PyData.canLayAll0 (xs.map dRow) = true
  | [] => rfl
  | x :: xs => by
    rw [List.map_cons, PyData.canLayAll0, canLay_rows xs]
    simp [dRow, PyData.canLay0, PyData.canLayAll0]
theorem depth_rows : ∀ xs : List Row, PyData.depthAll (xs.map dRow) ≤ 1
  | [] => by simp [PyData.depthAll]
  | x :: xs => by
    rw [List.map_cons, PyData.depthAll]
    have := depth_rows xs
    have h : (dRow x).depth ≤ 1 := by simp [dRow, PyData.depth, PyData.depthAll]
    omega
theorem shaped_rows (xs : List Row) : SeqAt.shaped (dL dRow xs) = true := by
  unfold SeqAt.shaped dL
  rw [PyData.canLay0, canLay_rows, PyData.depth]
  have := depth_rows xs
  simp
  omega
end Rw
namespace Rw
open PySem L2
theorem rows_valid {rs : List Row} (h : ∀ r ∈ rs, RowOk r) : Valid rs := fun r hr => (h r hr).2.2.2.1
def spPlain : Sp := fun vs H Q _ => ∃ (F : Hp) (v : V) (rs : List Row), vs = [v] ∧ Same F H ∧ (kL kRow).is F v rs ∧ RowsOk rs ∧ RetL M0 F H kRow (Fewest rs) Q
/-- of two sets: which points are told -/
structure Of2 (one other : List Row) (φ : Prop → Prop → Prop) (out : List Row) : Prop where
  can : Canon out
  mem : ∀ p, mem out p ↔ φ (mem one p) (mem other p)
  len : out.length ≤ one.length + other.length
def sp2 (φ : Prop → Prop → Prop) : Sp := fun vs H Q _ => ∃ (F : Hp) (v u : V) (one other : List Row), vs = [v, u] ∧ Same F H ∧ (kL kRow).is F v one ∧ (kL kRow).is F u other ∧ RowsOk one ∧ RowsOk other ∧ RetL M0 F H kRow (Of2 one other φ) Q
abbrev fOr : Prop → Prop → Prop := fun a b => a ∨ b
abbrev fAnd : Prop → Prop → Prop := fun a b => a ∧ b
abbrev fLess : Prop → Prop → Prop := fun a b => a ∧ ¬ b
def spByMany : Sp := fun vs H Q _ => ∃ (F : Hp) (v : V) (sets : List (List Row)) (least : Int), vs = [v, .int least] ∧ Same F H ∧ (kL (kL kRow)).is F v sets ∧ (∀ rs ∈ sets, RowsOk rs) ∧ sets.length ≤ 100 ∧ 1 ≤ least ∧ least ≤ sets.length ∧ RetL M0 F H kRow (Held sets least) Q
def fore (rs : List Row) : List Row := rs.map fun r => (r.1, 1, r.2.2)
def spGaps : Sp := fun vs H Q _ => ∃ (F : Hp) (v : V) (rs : List Row), vs = [v] ∧ Same F H ∧ (kL kRow).is F v rs ∧ RowsOk rs ∧ RetL M0 F H kRow (Without (fore rs) rs) Q
def spWithin : Sp := fun vs H Q _ => ∃ (F : Hp) (v u : V) (one other : List Row), vs = [v, u] ∧ Same F H ∧ (kL kRow).is F v one ∧ (kL kRow).is F u other ∧ RowsOk one ∧ RowsOk other ∧
  ∀ (b : Bool) (F' H' : Hp), Ext M0 F H F' H' → (b = true ↔ ∀ p, mem one p → mem other p) → Q (.bl b) H'
/-- up to where there is no gap -/
structure Whole (rs : List Row) (h z : Int) : Prop where
  nn : 0 ≤ z
  all : ∀ n, 1 ≤ n → n ≤ z → mem rs (h, n)
  stop : ¬ mem rs (h, z + 1)
def spWholeTo : Sp := fun vs H Q _ => ∃ (F : Hp) (v : V) (rs : List Row) (h : Int), vs = [v, .int h] ∧ Same F H ∧ (kL kRow).is F v rs ∧ RowsOk rs ∧ 0 ≤ h ∧ h ≤ 7 ∧ ∀ (z : Int) (F' H' : Hp), Ext M0 F H F' H' → Whole rs h z → Q (.int z) H'
theorem ext_of_same {F H H' : Hp} (s : Same F H) (t : Same H H') : Ext M0 F H F H' :=
  ⟨Same.refl F, s.trans t, fun b o h _ => t b o h, fun b h e => h (t.free e), fun _ _ => rfl⟩
section
variable {P : Program} {w : World} {K : PySem.W.Frag} {mg : Str → Option Value} {base : Heap}
abbrev CalCheck (P : Program) (w : World) (K : PySem.W.Frag) (mg : Str → Option Value) (base : Heap) := Cal P w K mg base 5 "check_rows" ["rows"] spCheckRows
theorem two_sets {F' : Hp} {v u : V} {one other : List Row} (h1 : (kL kRow).is F' v one) (h2 : (kL kRow).is F' u other) : Paired ((kL kRow).is F') [v, u] [one, other] := .cons h1 (.cons h2 .nil)
end
end Rw
namespace Rw
open PySem L2
theorem total_le {n : Nat} : ∀ {sets : List (List Row)}, (∀ rs ∈ sets, rs.length ≤ n) → total sets ≤ n * sets.length
  | [], _ => Nat.zero_le _
  | rs :: sets, h => by
    have h1 := h rs List.mem_cons_self
    have h2 := total_le (sets := sets) fun x hx => h x (List.mem_cons_of_mem _ hx)
    show rs.length + total sets ≤ n * (sets.length + 1)
    rw [Nat.mul_add]; omega
section
variable {P : Program} {w : World} {K : PySem.W.Frag} {mg : Str → Option Value} {base : Heap}
def spWholeIn : Sp := fun vs H Q _ => ∃ (F : Hp) (v : V) (rs : List Row) (h : Int), vs = [v, .int h] ∧ Same F H ∧ (kL kRow).is F v rs ∧ Valid rs ∧ (∀ r ∈ rs, 1 ≤ r.2.1) ∧ rs.length ≤ 100000 ∧ ∀ (z : Int) (F' H' : Hp), Ext M0 F H F' H' → Whole rs h z → Q (.int z) H'
end
end Rw
namespace Rw
open PySem L2
/-! ### the law's dice -/
def dice (s : Addr) (i m r : Int) : HO := .lst [.ref s, .int i, .int m, .int r]
structure Good (i m r : Int) : Prop where
  i0 : 0 ≤ i
  m0 : 0 ≤ m
  m1 : m < 2147483647
  r0 : 0 ≤ r
def spDice (K : PySem.W.Frag) : Sp := fun vs H Q _ => ∃ (s : Addr) (ns : List Int), vs = [.ref s] ∧ SqL K H s (ns.map V.int) ∧ ∀ (d : Addr) (m : Int), H d = none → Good 0 m 0 → Q (.ref d) (upd H d (dice s 0 m 0))
/-- the dice at d over the script at s -/
structure DiceAt (K : PySem.W.Frag) (F H : Hp) (d s : Addr) (ns : List Int) : Prop where
  fh : Same F H
  fd : F d = none
  sc : SqL K F s (ns.map V.int)
  ex : ∃ i m r : Int, H d = some (dice s i m r) ∧ Good i m r
/-- what a draw may do -/
def RetN (K : PySem.W.Frag) (F H : Hp) (d s : Addr) (ns : List Int) (many : Int) (Q : VK) : Prop := ∀ (z : Int) (H' : Hp), 0 ≤ z → z < many → Ext (· = d) F H F H' → DiceAt K F H' d s ns → Q (.int z) H'
def spNext (K : PySem.W.Frag) : Sp := fun vs H Q _ => ∃ (F : Hp) (d s : Addr) (ns : List Int) (many : Int), vs = [.ref d, .int many] ∧ DiceAt K F H d s ns ∧ 1 ≤ many ∧ many < 2 ^ 64 ∧ RetN K F H d s ns many Q
structure TxL (mg : Str → Option Value) : Prop where
  int : mg "int" = none
  len : mg "len" = none
  range : mg "range" = none
  min : mg "min" = none
theorem atI_int {ns : List Int} {i : Int} (h0 : 0 ≤ i) (h1 : i < ns.length) : ∃ c, atI (ns.map V.int) i = some (.int c) := by
  obtain ⟨j, rfl⟩ : ∃ j : Nat, i = (j : Int) := ⟨i.toNat, by omega⟩
  have hl : j < ns.length := by omega
  exact ⟨ns[j], atI_nat (by rw [List.getElem?_map, List.getElem?_eq_getElem hl]; rfl)⟩
theorem DiceAt.put {K : PySem.W.Frag} {F H : Hp} {d s : Addr} {ns : List Int} (D : DiceAt K F H d s ns) {i m r : Int} (g : Good i m r) : Ext (· = d) F H F (upd H d (dice s i m r)) ∧ DiceAt K F (upd H d (dice s i m r)) d s ns :=
  ⟨(Ext.refl D.fh).put (.inr rfl) D.fd, ⟨same_put D.fh D.fd, D.fd, D.sc, ⟨i, m, r, upd_same, g⟩⟩⟩
section
variable {P : Program} {w : World} {K : PySem.W.Frag} {mg : Str → Option Value} {base : Heap}
theorem ok_law_dice {f : Addr} {fd : FuncData} (F0 : Fun K "_law_dice" "_law_dice" s_law_dice f fd) (T : TxL mg) : FnOk P w K mg base CX0 1 f fd ["_law_script"] (spDice K) := by
  refine F0.ok sc_law_dice (fun vs H Q E h => ?_) (fun cdv A outer s H vs Q E hr h => ?_)
  · obtain ⟨s, ns, rfl, _⟩ := h
    rfl
  · obtain ⟨s, ns, rfl, hs, q⟩ := h
    refine ⟨_, pss_cons (ps_set (i := 1) sc_law_dice.nd rfl (.inl rfl) pe_int)
      (pss_cons (ps_for PassesOwn.never rfl (pi_list (pv 0)) (pg_name (i := 2) sc_law_dice.nd rfl (.inl rfl))
        (pss_one (ps_set (i := 1) sc_law_dice.nd rfl (.inl rfl) (pe_op op_mod (pe_op op_add (pe_op op_add (pe_op op_mul (pv 1) pe_int) (pe_op op_mul (pe_op op_mod (pv 2) pe_int) pe_int)) pe_int) pe_int))))
      (pss_one (ps_ret (pe_lst (pa_cons (pv 0) (pa_cons pe_int (pa_cons (pe_op op_mul (pv 1) (pe_callTy call_int1 (by rfl) T.int (by decide +kernel) (pa_cons (pe_cmpR op_gt (pe_callB call_len (by rfl) T.len PySem.boot_len (pa_cons (pv 0) pa_nil)) pe_int (nomark _)) pa_nil))) (pa_cons pe_int pa_nil)))))))), ?_⟩
    refine ⟨_, rfl, s, rfl, ⟨_, hs⟩, for_list (K := K) (a := s) (xs := ns.map V.int) (fun i σ H' => ∃ (m : Int) (y : Option V), σ = [some (.ref s), some (.int m), y] ∧ 0 ≤ m ∧ m < 2147483647 ∧ H' = H) ⟨0, none, rfl, by decide, by decide, rfl⟩ (fun i σ H' _ ⟨_, _, _, _, _, e⟩ => e ▸ hs) ?_ ?_⟩
    · rintro i x σ H' hi ⟨m, y, rfl, h0, h1, rfl⟩
      obtain ⟨c, hc, rfl⟩ : ∃ c, ns[i]? = some c ∧ x = .int c := by
        rw [List.getElem?_map] at hi
        cases e : ns[i]? with
        | none => rw [e] at hi; cases hi
        | some c => rw [e] at hi; exact ⟨c, rfl, (Option.some.inj hi).symm⟩
      have p1 : (0 : Int) < 2147483647 := by decide
      refine ⟨_, rfl, _, _, rfl, rfl, .inl ⟨by omega, by omega⟩, _, rfl, _, _, rfl, rfl, p1, _, _, rfl, rfl, .inr ⟨by decide, by decide⟩, _, _, rfl, rfl, _, _, rfl, rfl, _, _, rfl, rfl, p1, ?_⟩
      exact ⟨_, _, rfl, Int.emod_nonneg _ (by decide), Int.emod_lt_of_pos _ p1, rfl⟩
    · rintro σ H' ⟨m, y, rfl, h0, h1, rfl⟩
      refine ⟨_, rfl, _, rfl, _, rfl, _, _, rfl, .inl ⟨_, hs, rfl⟩, _, _, rfl, rfl, .inr ⟨_, rfl, _, _, rfl, rfl, .inl ⟨by omega, by omega⟩, ?_⟩⟩
      refine ⟨by show 4 ≤ sizeLine; decide, fun d nd => ?_⟩
      refine q d _ nd ⟨Int.le_refl _, ?_, ?_, Int.le_refl _⟩
      · split <;> omega
      · split <;> omega
theorem ok_law_next {f : Addr} {fd : FuncData} (F0 : Fun K "_law_next" "_law_next" s_law_next f fd) (T : TxL mg) : FnOk P w K mg base CX0 1 f fd ["_law_dice_here", "_law_many"] (spNext K) := by
  refine F0.ok sc_law_next (fun vs H Q E h => ?_) (fun cdv A outer s H vs Q E hr h => ?_)
  · obtain ⟨F, d, s, ns, many, rfl, _⟩ := h
    rfl
  · obtain ⟨F, d, s, ns, many, rfl, D, m1, m2, q⟩ := h
    obtain ⟨i, m, r, hd, g⟩ := D.ex
    have hdv : many.natAbs < 2 ^ 64 := by omega
    refine ⟨_, pss_cons (ps_if (pt_cmpR op_gt (pe_ix ix_list (pv 0) pe_int (fun _ _ => rfl)) pe_int (nomark _))
        (pss_cons (ps_set (i := 2) sc_law_next.nd rfl (.inl rfl) (pe_op op_mod (pe_ix ix_list (pv 0) pe_int (fun _ _ => rfl)) (pv 1)))
        (pss_cons (ps_asg (pe_op op_fdivW (pe_ix ix_list (pv 0) pe_int (fun _ _ => rfl)) (pv 1)) (pg_sub (pv 0) pe_int set_list))
        (pss_one (ps_ret (pv 2))))) pss_nil)
      (pss_cons (ps_asg (pe_op op_add (pe_ix ix_list (pv 0) pe_int (fun _ _ => rfl)) pe_int) (pg_sub (pv 0) pe_int set_list))
      (pss_cons (ps_if (pt_cmpR op_le (pe_ix ix_list (pv 0) pe_int (fun _ _ => rfl)) (pe_callB call_len (by rfl) T.len PySem.boot_len (pa_cons (pe_ix ix_list (pv 0) pe_int (fun _ _ => rfl)) pa_nil)) (nomark _))
        (pss_cons (ps_set (i := 3) sc_law_next.nd rfl (.inl rfl) (pe_ix ix_list (pe_ix ix_list (pv 0) pe_int (fun _ _ => rfl)) (pe_op op_sub (pe_ix ix_list (pv 0) pe_int (fun _ _ => rfl)) pe_int) (fun _ _ => rfl)))
        (pss_cons (ps_asg (pe_ifExp (pt_cmpR op_ge (pv 3) (pe_op op_pow pe_int pe_int) (nomark _)) (pe_op op_fdivW (pv 3) (pv 1)) pe_int) (pg_sub (pv 0) pe_int set_list))
        (pss_one (ps_ret (pe_op op_mod (pv 3) (pv 1)))))) pss_nil)
      (pss_cons (ps_asg (pe_op op_mod (pe_op op_mul (pe_ix ix_list (pv 0) pe_int (fun _ _ => rfl)) pe_int) pe_int) (pg_sub (pv 0) pe_int set_list))
      (pss_one (ps_ret (pe_op op_mod (pe_op op_fdiv (pe_ix ix_list (pv 0) pe_int (fun _ _ => rfl)) pe_int) (pv 1))))))), ?_⟩
    have p1 : (0 : Int) < 2147483647 := by decide
    have pm : 0 < many := by omega
    refine ⟨_, rfl, d, _, 3, .int r, rfl, rfl, SqL.of hd, rfl, _, _, rfl, rfl, _, rfl, ite2 (fun c => ?_) (fun c => ?_)⟩
    · -- some digits are left
      refine ⟨_, rfl, d, _, 3, .int r, rfl, rfl, SqL.of hd, rfl, _, rfl, _, _, rfl, rfl, pm, ?_⟩
      refine ⟨_, rfl, d, _, 3, .int r, rfl, rfl, SqL.of hd, rfl, _, rfl, _, _, rfl, rfl, wide_div pm hdv (by decide) (by decide), ?_⟩
      refine ⟨_, rfl, d, _, 3, 3, rfl, rfl, hd, rfl, ?_⟩
      have g' : Good i m (r / many) := ⟨g.i0, g.m0, g.m1, Int.ediv_nonneg g.r0 (by omega)⟩
      exact ⟨_, rfl, q _ _ (Int.emod_nonneg _ (by omega)) (Int.emod_lt_of_pos _ pm) (D.put g').1 (D.put g').2⟩
    · refine ⟨_, rfl, d, _, 1, .int i, rfl, rfl, SqL.of hd, rfl, _, _, rfl, rfl, ?_⟩
      refine ⟨_, rfl, d, _, 1, 1, rfl, rfl, hd, rfl, ?_⟩
      have g1 : Good (i + 1) m r := ⟨by have := g.i0; omega, g.m0, g.m1, g.r0⟩
      have D1 := (D.put g1).2
      have X1 := (D.put g1).1
      have hs1 : SqL K (upd H d (dice s (i + 1) m r)) s (ns.map V.int) := D1.fh.seq D.sc
      have go2 : ∀ {i' m' r' z : Int}, Good i' m' r' → 0 ≤ z → z < many → Q (.int z) (upd (upd H d (dice s (i + 1) m r)) d (dice s i' m' r')) := fun g' h0 h1 =>
        q _ _ h0 h1 (X1.trans (D1.put g').1) (D1.put g').2
      refine ⟨_, rfl, d, _, 1, .int (i + 1), rfl, rfl, SqL.of upd_same, rfl, _, rfl, d, _, 0, .ref s, rfl, rfl, SqL.of upd_same, rfl, _, _, rfl, .inl ⟨_, hs1, rfl⟩, _, _, rfl, rfl, _, rfl, ite2 (fun c2 => ?_) (fun c2 => ?_)⟩
      · have c2 := of_decide_eq_true c2
        rw [List.length_map] at c2
        obtain ⟨cell, hc⟩ := atI_int (ns := ns) (i := i + 1 - 1) (by have := g.i0; omega) (by omega)
        refine ⟨_, rfl, d, _, 0, .ref s, rfl, rfl, SqL.of upd_same, rfl, _, rfl, d, _, 1, .int (i + 1), rfl, rfl, SqL.of upd_same, rfl, _, _, rfl, rfl, s, _, _, .int cell, rfl, rfl, hs1, hc, ?_⟩
        refine ⟨_, rfl, _, _, rfl, rfl, ⟨by decide, by decide, by decide⟩, _, _, rfl, rfl, _, rfl, ite2 (fun c3 => ?_) (fun c3 => ?_)⟩
        · have c3 := of_decide_eq_true c3
          have cp : 0 ≤ cell := by
            have e : (10 : Int) ^ (18 : Int).toNat = 1000000000000000000 := by decide
            rw [e] at c3
            omega
          refine ⟨_, rfl, _, rfl, _, _, rfl, rfl, wide_div pm hdv (by decide) (by decide), _, rfl, d, _, 3, 3, rfl, rfl, upd_same, rfl, ?_⟩
          refine ⟨_, rfl, _, rfl, _, _, rfl, rfl, pm, ?_⟩
          exact go2 ⟨g1.i0, g1.m0, g1.m1, Int.ediv_nonneg cp (by omega)⟩ (Int.emod_nonneg _ (by omega)) (Int.emod_lt_of_pos _ pm)
        · refine ⟨_, rfl, d, _, 3, 3, rfl, rfl, upd_same, rfl, ?_⟩
          refine ⟨_, rfl, _, rfl, _, _, rfl, rfl, pm, ?_⟩
          exact go2 ⟨g1.i0, g1.m0, g1.m1, Int.le_refl _⟩ (Int.emod_nonneg _ (by omega)) (Int.emod_lt_of_pos _ pm)
      · have gm0 := g.m0
        have gm1 := g.m1
        refine ⟨_, rfl, d, _, 2, .int m, rfl, rfl, SqL.of upd_same, rfl, _, _, rfl, rfl, .inl ⟨by omega, by omega⟩, _, _, rfl, rfl, p1, _, rfl, d, _, 2, 2, rfl, rfl, upd_same, rfl, ?_⟩
        have g2 : Good (i + 1) (m * 48271 % 2147483647) r := ⟨g1.i0, Int.emod_nonneg _ (by decide), Int.emod_lt_of_pos _ p1, g1.r0⟩
        refine ⟨_, rfl, d, _, 2, .int (m * 48271 % 2147483647), rfl, rfl, SqL.of upd_same, rfl, _, _, rfl, rfl, ⟨by decide, by decide⟩, _, rfl, _, _, rfl, rfl, pm, ?_⟩
        exact go2 g2 (Int.emod_nonneg _ (by omega)) (Int.emod_lt_of_pos _ pm)
end
end Rw
namespace Rw
open PySem L2
/-- a drawn row -/
def Drawn (houses far : Int) (r : Row) : Prop := 0 ≤ r.1 ∧ r.1 < houses ∧ 1 ≤ r.2.1 ∧ r.2.1 ≤ r.2.2 ∧ r.2.2 ≤ far
def spRows (K : PySem.W.Frag) : Sp := fun vs H Q _ => ∃ (F : Hp) (d s : Addr) (ns : List Int) (houses far most : Int), vs = [.ref d, .int houses, .int far, .int most] ∧ DiceAt K F H d s ns ∧ 1 ≤ houses ∧ houses ≤ 8 ∧ 1 ≤ far ∧ far ≤ LIM ∧ 0 ≤ most ∧ most ≤ 1000 ∧
  ∀ (F' H' : Hp) (a : Addr) (xs : List V) (rows : List Row), Ext (· = d) F H F' H' → DiceAt K F' H' d s ns → H a = none → F' a = none → H' a = some (.lst xs) → Paired (kRow.is F') xs rows → (rows.length : Int) ≤ most → (∀ r ∈ rows, Drawn houses far r) → Q (.ref a) H'
theorem DiceAt.step {K : PySem.W.Frag} {F H F' H' : Hp} {d s : Addr} {ns : List Int} (D : DiceAt K F H d s ns) (X : Ext M0 F H F' H') : DiceAt K F' H' d s ns := by
  obtain ⟨i, m, r, hd, g⟩ := D.ex
  exact ⟨X.fh, by rw [X.new d (by rw [hd]; simp)]; exact D.fd, X.ff.seq D.sc, ⟨i, m, r, X.same _ _ hd, g⟩⟩
theorem DiceAt.ne {K : PySem.W.Frag} {F H : Hp} {d s p : Addr} {ns : List Int} (D : DiceAt K F H d s ns) (h : H p = none) : d ≠ p := by
  obtain ⟨i, m, r, hd, g⟩ := D.ex
  exact ne_of_none hd h
theorem DiceAt.lay {K : PySem.W.Frag} {F H : Hp} {d s p : Addr} {ns : List Int} {o : HO} (D : DiceAt K F H d s ns) (h : H p = none) : DiceAt K (upd F p o) (upd H p o) d s ns :=
  D.step ((Ext.refl D.fh).lay h)
theorem DiceAt.tmp {K : PySem.W.Frag} {F H : Hp} {d s p : Addr} {ns : List Int} {o : HO} (D : DiceAt K F H d s ns) (h : H p = none) : DiceAt K F (upd H p o) d s ns :=
  D.step ((Ext.refl D.fh).tmp h)
theorem DiceAt.set {K : PySem.W.Frag} {F H : Hp} {d s p : Addr} {ns : List Int} {o : HO} (D : DiceAt K F H d s ns) (h : d ≠ p) (f : F p = none) : DiceAt K F (upd H p o) d s ns := by
  obtain ⟨i, m, r, hd, g⟩ := D.ex
  exact ⟨same_put D.fh f, D.fd, D.sc, ⟨i, m, r, by rw [upd_ne h]; exact hd, g⟩⟩
section
variable {P : Program} {w : World} {K : PySem.W.Frag} {mg : Str → Option Value} {base : Heap}
theorem ok_law_rows {f : Addr} {fd : FuncData} (F0 : Fun K "_law_rows" "_law_rows" s_law_rows f fd) (T : TxL mg) (CN : Cal P w K mg base 1 "_law_next" ["_law_dice_here", "_law_many"] (spNext K)) : FnOk P w K mg base CX0 2 f fd ["_law_d", "_law_houses", "_law_far", "_law_most"] (spRows K) := by
  obtain ⟨f1, fd1, G1, g1, kp1, b1⟩ := CN
  refine F0.ok sc_law_rows (fun vs H Q E h => ?_) (fun cdv A outer s0 H vs Q E hr h => ?_)
  · obtain ⟨F, d, s, ns, houses, far, most, rfl, _⟩ := h
    rfl
  · obtain ⟨F, d, s, ns, houses, far, most, rfl, D0, h1, h8, f1', fL, m0, m1, q⟩ := h
    have eL : LIM = 1000000000000 := rfl
    refine ⟨_, pss_cons (ps_set (i := 4) sc_law_rows.nd rfl (.inl rfl) (pe_lst pa_nil))
      (pss_cons (ps_for PassesOwn.never rfl (pi_range1 (by rfl) T.range (pa_cons (pe_call G1 hr (by rfl) g1 kp1 b1 .nil pass0 (pa_cons (pv 0) (pa_cons (pe_op op_add (pv 3) pe_int) pa_nil))) pa_nil)) (pg_name (i := 5) sc_law_rows.nd rfl (.inl rfl))
        (pss_cons (ps_set (i := 6) sc_law_rows.nd rfl (.inl rfl) (pe_op op_add pe_int (pe_call G1 hr (by rfl) g1 kp1 b1 .nil pass0 (pa_cons (pv 0) (pa_cons (pv 2) pa_nil)))))
        (pss_cons (ps_set (i := 7) sc_law_rows.nd rfl (.inl rfl) (pe_ix ix_list (pe_lst (pa_cons pe_int (pa_cons (pe_call G1 hr (by rfl) g1 kp1 b1 .nil pass0 (pa_cons (pv 0) (pa_cons pe_int pa_nil))) (pa_cons (pe_call G1 hr (by rfl) g1 kp1 b1 .nil pass0 (pa_cons (pv 0) (pa_cons (pv 2) pa_nil))) pa_nil))))
            (pe_call G1 hr (by rfl) g1 kp1 b1 .nil pass0 (pa_cons (pv 0) (pa_cons pe_int pa_nil))) (fun _ _ => rfl)))
        (pss_one (ps_expr (pe_bm PySem.F.plainAttrs_list PySem.F.slot_list_append PySem.F.type_list_append mt_append (pv 4) (pa_cons (pe_tup (pa_cons (pe_call G1 hr (by rfl) g1 kp1 b1 .nil pass0 (pa_cons (pv 0) (pa_cons (pv 1) pa_nil))) (pa_cons (pv 6)
            (pa_cons (pe_callB (call_min2 (by rfl)) (by rfl) T.min (by decide +kernel) (pa_cons (pv 2) (pa_cons (pe_op op_add (pv 6) (pv 7)) pa_nil))) pa_nil)))) pa_nil)))))))
      (pss_one (ps_ret (pv 4)))), ?_⟩
    refine ⟨Nat.zero_le _, fun o no => ?_⟩
    have Fo : F o = none := D0.fh.free no
    have dO : d ≠ o := D0.ne no
    have X0 : Ext (· = d) F H F (upd H o (.lst [])) := (Ext.refl D0.fh).tmp no
    have ho0 : upd H o (.lst []) o = some (.lst []) := upd_same
    have D1 : DiceAt K F (upd H o (.lst [])) d s ns := D0.tmp no
    revert X0 ho0 D1
    generalize upd H o (.lst []) = H1
    intro X0 ho0 D1
    refine ⟨_, rfl, _, rfl, _, _, rfl, rfl, F, d, s, ns, most + 1, rfl, D1, by omega, by omega, fun z H2 z0 z1 X1 D2 => ?_⟩
    have ho2 : H2 o = some (.lst []) := X1.hh _ _ ho0 fun e => dO e.symm
    have X2 := X0.trans X1
    refine ⟨z, rfl, by omega, by omega, for_range (lo := 0) (n := z.toNat) (fun i σ H' => ∃ F' acc rows y5 y6 y7, σ = [some (.ref d), some (.int houses), some (.int far), some (.int most), some (.ref o), y5, y6, y7] ∧ Ext (· = d) F H F' H' ∧ DiceAt K F' H' d s ns ∧ H' o = some (.lst acc) ∧ F' o = none ∧ Paired (kRow.is F') acc rows ∧ rows.length = i ∧ ∀ r ∈ rows, Drawn houses far r)
      ⟨F, [], [], none, none, none, rfl, X2, D2, ho2, Fo, .nil, rfl, fun r h => absurd h (by simp)⟩ ?_ ?_⟩
    · rintro i σ H3 hi ⟨F', acc, rows, y5, y6, y7, rfl, X3, D3, ho3, fo3, hpr, hlen, hdr⟩
      -- first = 1 + next(d, far)
      refine ⟨_, rfl, _, rfl, F', d, s, ns, far, rfl, D3, f1', by omega, fun a H4 a0 a1 Y4 D4 => ?_⟩
      refine ⟨_, _, rfl, rfl, ?_⟩
      -- wide
      refine ⟨_, rfl, F', d, s, ns, 3, rfl, D4, by decide, by decide, fun b H5 b0 b1 Y5 D5 => ?_⟩
      refine ⟨_, rfl, _, rfl, F', d, s, ns, far, rfl, D5, f1', by omega, fun c H6 c0 c1 Y6 D6 => ?_⟩
      refine ⟨by show 3 ≤ sizeLine; decide, fun p np => ?_⟩
      have D6' : DiceAt K F' (upd H6 p (.lst [.int 0, .int b, .int c])) d s ns := D6.tmp np
      have dp : d ≠ p := D6.ne np
      refine ⟨_, rfl, F', d, s, ns, 3, rfl, D6', by decide, by decide, fun e H7 e0 e1 Y7 D7 => ?_⟩
      have hp7 : H7 p = some (.lst [.int 0, .int b, .int c]) := Y7.hh _ _ upd_same fun z => dp z.symm
      obtain ⟨wd, w0, hw⟩ : ∃ wd : Int, 0 ≤ wd ∧ atI [V.int 0, V.int b, V.int c] e = some (.int wd) := by
        rcases (show e = 0 ∨ e = 1 ∨ e = 2 by omega) with z | z | z
        · exact ⟨0, Int.le_refl _, by rw [z]; rfl⟩
        · exact ⟨b, b0, by rw [z]; rfl⟩
        · exact ⟨c, c0, by rw [z]; rfl⟩
      have Y : Ext (· = d) F' H3 F' H7 := ((Y4.trans Y5).trans Y6 |>.tmp np).trans Y7
      have ho7 : H7 o = some (.lst acc) := Y.hh _ _ ho3 fun z => dO z.symm
      refine ⟨p, _, e, _, rfl, rfl, SqL.of hp7, hw, ?_⟩
      -- append
      refine ⟨_, rfl, .inl ⟨rfl, _, SqL.of ho7⟩, _, rfl, _, rfl, F', d, s, ns, houses, rfl, D7, h1, by omega, fun h H8 hh0 hh1 Y8 D8 => ?_⟩
      have ho8 : H8 o = some (.lst acc) := Y8.hh _ _ ho7 fun z => dO z.symm
      refine ⟨_, rfl, _, rfl, _, rfl, _, rfl, _, _, rfl, rfl, _, _, rfl, by show 3 ≤ sizeLine; decide, fun t nt => ?_⟩
      have ot : o ≠ t := ne_of_none ho8 nt
      have la : acc.length = i := by rw [pr_len hpr]; exact hlen
      refine ⟨o, acc, _, rfl, rfl, by rw [upd_ne ot]; exact ho8, by rw [sizeLine_eq]; omega, ?_⟩
      have XT := (X3.trans Y).trans Y8
      have fo9 : upd F' t (.tup [.int h, .int (1 + a), .int (if 1 + a + wd < far then 1 + a + wd else far)]) o = none := by rw [upd_ne ot]; exact fo3
      have sm : Same F' (upd F' t (.tup [.int h, .int (1 + a), .int (if 1 + a + wd < far then 1 + a + wd else far)])) := same_upd (XT.ffree nt)
      refine ⟨upd F' t (.tup [.int h, .int (1 + a), .int (if 1 + a + wd < far then 1 + a + wd else far)]), acc ++ [.ref t], rows ++ [(h, 1 + a, if 1 + a + wd < far then 1 + a + wd else far)], _, _, _, rfl,
        (XT.lay nt).put (.inl no) fo9, (D8.lay nt).set dO fo9, upd_same, fo9, pr_snoc (pr_mono (fun _ _ z => kRow.mono sm z) hpr) ⟨t, rfl, upd_same⟩, by rw [List.length_append, hlen]; rfl, fun r hr => ?_⟩
      rcases List.mem_append.mp hr with hr | hr
      · exact hdr r hr
      · rw [List.mem_singleton.mp hr]
        refine ⟨hh0, hh1, ?_, ?_, ?_⟩
        · show 1 ≤ 1 + a; omega
        · show 1 + a ≤ if 1 + a + wd < far then 1 + a + wd else far
          split <;> omega
        · show (if 1 + a + wd < far then 1 + a + wd else far) ≤ far
          split <;> omega
    · rintro σ H3 ⟨F', acc, rows, y5, y6, y7, rfl, X3, D3, ho3, fo3, hpr, hlen, hdr⟩
      exact ⟨_, rfl, q F' H3 o acc rows X3 D3 no fo3 ho3 hpr (by omega) hdr⟩
end
end Rw
namespace Rw
open PySem L2
/-! ### alike: the law's own comparing, sort by sort -/
def sc0 (v u : V) : Prop := (∃ i, v = .int i ∧ u = .int i) ∨ (∃ b, v = .bl b ∧ u = .bl b) ∨ (∃ z, v = .str z ∧ u = .str z) ∨ (v = .non ∧ u = .non)
def Twin (H : Hp) : Nat → V → V → Prop
  | 0, _, _ => False
  | n + 1, v, u => sc0 v u ∨ ∃ a b xs ys, v = .ref a ∧ u = .ref b ∧ ((H a = some (.tup xs) ∧ H b = some (.tup ys)) ∨ (H a = some (.lst xs) ∧ H b = some (.lst ys))) ∧ ys.length ≤ 100000 ∧ xs.length = ys.length ∧ ∀ (i : Nat) (x y : V), xs[i]? = some x → ys[i]? = some y → Twin H n x y
theorem Twin.mono {H H' : Hp} (s : Same H H') : ∀ {n : Nat} {v u : V}, Twin H n v u → Twin H' n v u
  | 0, _, _, h => h
  | n + 1, v, u, .inl h => .inl h
  | n + 1, v, u, .inr ⟨a, b, xs, ys, ev, eu, h, l, e, p⟩ => .inr ⟨a, b, xs, ys, ev, eu, h.imp (fun ⟨x, y⟩ => ⟨s _ _ x, s _ _ y⟩) (fun ⟨x, y⟩ => ⟨s _ _ x, s _ _ y⟩), l, e, fun i x y hx hy => (p i x y hx hy).mono s⟩
def spLike (n : Nat) : Sp := fun vs H Q _ => ∃ (v u : V), vs = [v, u] ∧ Twin H n v u ∧ Q (.bl true) H
structure TxK (mg : Str → Option Value) : Prop where
  isinst : mg "isinstance" = none
  int : mg "int" = none
  bool : mg "bool" = none
  str : mg "str" = none
  tuple : mg "tuple" = none
  list : mg "list" = none
  len : mg "len" = none
  range : mg "range" = none
theorem bt_str : bootBuiltins "str" = some (.type "str") := by decide +kernel
theorem bt_list : bootBuiltins "list" = some (.type "list") := by decide +kernel
theorem isi_use {K : PySem.W.Frag} {H : Hp} {x : V} {t n : String} {r : Bool} {Q : VK} (ty : TyX K H x (.type t)) (k : kitB t n = some r) (q : Q (.bl r) H) : rIsi K [x, .ty n] H Q :=
  ⟨_, .ty n, _, _, _, rfl, .ty _, ty, kit_ty k, q⟩
section
variable {P : Program} {w : World} {K : PySem.W.Frag} {mg : Str → Option Value} {base : Heap}
theorem ok_law_like {f : Addr} {fd : FuncData} {n : Nat} (F0 : Fun K "_law_like" "_law_like" s_law_like f fd) (T : TxK mg) (CL : Cal P w K mg base (n + 1) "_law_like" ["_law_found", "_law_due"] (spLike n)) :
    FnOk P w K mg base CX0 (n + 2) f fd ["_law_found", "_law_due"] (spLike (n + 1)) := by
  obtain ⟨f1, fd1, G1, g1, kp1, b1⟩ := CL
  refine F0.ok sc_law_like (fun vs H Q E h => ?_) (fun cdv A outer s H vs Q E hr h => ?_)
  · obtain ⟨v, u, rfl, _⟩ := h
    rfl
  · obtain ⟨v, u, rfl, t, q⟩ := h
    refine ⟨_, pss_cons (ps_if (pt_val (pe_callB call_isi (by rfl) T.isinst (by decide +kernel) (pa_cons (pv 1) (pa_cons (pe_bty (by rfl) T.bool bt_bool) pa_nil))))
        (pss_one (ps_ret (pe_and (pe_callB call_isi (by rfl) T.isinst (by decide +kernel) (pa_cons (pv 0) (pa_cons (pe_bty (by rfl) T.bool bt_bool) pa_nil))) (pe_one (pe_cmpR op_eq (pv 0) (pv 1) (nomark _)))))) pss_nil)
      (pss_cons (ps_if (pt_val (pe_callB call_isi (by rfl) T.isinst (by decide +kernel) (pa_cons (pv 1) (pa_cons (pe_bty (by rfl) T.str bt_str) pa_nil))))
        (pss_one (ps_ret (pe_and (pe_callB call_isi (by rfl) T.isinst (by decide +kernel) (pa_cons (pv 0) (pa_cons (pe_bty (by rfl) T.str bt_str) pa_nil))) (pe_one (pe_cmpR op_eq (pv 0) (pv 1) (nomark _)))))) pss_nil)
      (pss_cons (ps_if (pt_val (pe_callB call_isi (by rfl) T.isinst (by decide +kernel) (pa_cons (pv 1) (pa_cons (pe_bty (by rfl) T.int bt_int) pa_nil))))
        (pss_one (ps_ret (pe_and (pe_callB call_isi (by rfl) T.isinst (by decide +kernel) (pa_cons (pv 0) (pa_cons (pe_bty (by rfl) T.int bt_int) pa_nil))) (pe_and (pe_not (pe_callB call_isi (by rfl) T.isinst (by decide +kernel) (pa_cons (pv 0) (pa_cons (pe_bty (by rfl) T.bool bt_bool) pa_nil)))) (pe_one (pe_cmpR op_eq (pv 0) (pv 1) (nomark _))))))) pss_nil)
      (pss_cons (ps_if (pt_cmp (pc_isN (pv 1))) (pss_one (ps_ret (pe_cmp (pc_isN (pv 0))))) pss_nil)
      (pss_cons (ps_if (PW.pt (pw_or (pt_cmpR op_ne (pe_callB call_isi (by rfl) T.isinst (by decide +kernel) (pa_cons (pv 1) (pa_cons (pe_bty (by rfl) T.tuple bt_tuple) pa_nil))) (pe_callB call_isi (by rfl) T.isinst (by decide +kernel) (pa_cons (pv 0) (pa_cons (pe_bty (by rfl) T.tuple bt_tuple) pa_nil))) (nomark _))
          (pw_or1 (pt_cmpR op_ne (pe_callB call_isi (by rfl) T.isinst (by decide +kernel) (pa_cons (pv 1) (pa_cons (pe_bty (by rfl) T.list bt_list) pa_nil))) (pe_callB call_isi (by rfl) T.isinst (by decide +kernel) (pa_cons (pv 0) (pa_cons (pe_bty (by rfl) T.list bt_list) pa_nil))) (nomark _))))) (pss_one (ps_ret pe_bl)) pss_nil)
      (pss_cons (ps_if (pt_cmpR op_ne (pe_callB call_len (by rfl) T.len PySem.boot_len (pa_cons (pv 0) pa_nil)) (pe_callB call_len (by rfl) T.len PySem.boot_len (pa_cons (pv 1) pa_nil)) (nomark _)) (pss_one (ps_ret pe_bl)) pss_nil)
      (pss_cons (ps_for PassesOwn.never rfl (pi_range1 (by rfl) T.range (pa_cons (pe_callB call_len (by rfl) T.len PySem.boot_len (pa_cons (pv 1) pa_nil)) pa_nil)) (pg_name (i := 2) sc_law_like.nd rfl (.inl rfl))
        (pss_one (ps_if (pt_not (pt_val (pe_call G1 hr (by rfl) g1 kp1 b1 .nil pass0 (pa_cons (pe_ix ix_seq (pv 0) (pv 2) (fun _ _ => rfl)) (pa_cons (pe_ix ix_seq (pv 1) (pv 2) (fun _ _ => rfl)) pa_nil))))) (pss_one (ps_ret pe_bl)) pss_nil)))
      (pss_one (ps_ret pe_bl)))))))), ?_⟩
    obtain (⟨i, rfl, rfl⟩ | ⟨b, rfl, rfl⟩ | ⟨z, rfl, rfl⟩ | ⟨rfl, rfl⟩) | ⟨a, b, xs, ys, rfl, rfl, hab, hl, hlen, hp⟩ := t
    · refine ⟨_, rfl, _, .ty "bool", _, _, _, rfl, .ty _, .base (.int i), kit_ib, false, rfl, iteF ?_⟩
      refine ⟨_, rfl, _, .ty "str", _, _, _, rfl, .ty _, .base (.int i), kit_ty (r := false) (by decide +kernel), false, rfl, iteF ?_⟩
      refine ⟨_, rfl, _, .ty "int", _, _, _, rfl, .ty _, .base (.int i), kit_ii, true, rfl, iteT ?_⟩
      refine ⟨_, rfl, _, .ty "int", _, _, _, rfl, .ty _, .base (.int i), kit_ii, true, rfl, iteT ?_⟩
      refine ⟨_, rfl, _, .ty "bool", _, _, _, rfl, .ty _, .base (.int i), kit_ib, false, rfl, true, rfl, iteT ?_⟩
      refine ⟨_, rfl, _, rfl, rfl, ?_⟩
      rw [decide_eq_true rfl]
      exact q
    · refine ⟨_, rfl, _, .ty "bool", _, _, _, rfl, .ty _, .base (.bl b), kit_ty (r := true) (by decide +kernel), true, rfl, iteT ?_⟩
      refine ⟨_, rfl, _, .ty "bool", _, _, _, rfl, .ty _, .base (.bl b), kit_ty (r := true) (by decide +kernel), true, rfl, iteT ?_⟩
      refine ⟨_, rfl, _, rfl, rfl, ?_⟩
      rw [decide_eq_true rfl]
      exact q
    · refine ⟨_, rfl, _, .ty "bool", _, _, _, rfl, .ty _, .base (.str z), kit_ty (r := false) (by decide +kernel), false, rfl, iteF ?_⟩
      refine ⟨_, rfl, _, .ty "str", _, _, _, rfl, .ty _, .base (.str z), kit_ty (r := true) (by decide +kernel), true, rfl, iteT ?_⟩
      refine ⟨_, rfl, _, .ty "str", _, _, _, rfl, .ty _, .base (.str z), kit_ty (r := true) (by decide +kernel), true, rfl, iteT ?_⟩
      refine ⟨_, rfl, _, rfl, rfl, ?_⟩
      rw [decide_eq_true rfl]
      exact q
    · refine ⟨_, rfl, _, .ty "bool", _, _, _, rfl, .ty _, .base .non, kit_ty (r := false) (by decide +kernel), false, rfl, iteF ?_⟩
      refine ⟨_, rfl, _, .ty "str", _, _, _, rfl, .ty _, .base .non, kit_ty (r := false) (by decide +kernel), false, rfl, iteF ?_⟩
      refine ⟨_, rfl, _, .ty "int", _, _, _, rfl, .ty _, .base .non, kit_ty (r := false) (by decide +kernel), false, rfl, iteF ?_⟩
      exact ⟨_, rfl, _, rfl, iteT ⟨_, rfl, q⟩⟩
    · -- a list or a tuple
      obtain ⟨T', c1, c2, ta, tb, k1, k2, k3, k4, k5, hs⟩ : ∃ (T' : String) (c1 c2 : Bool), TyX K H (.ref a) (.type T') ∧ TyX K H (.ref b) (.type T') ∧ kitB T' "bool" = some false ∧ kitB T' "str" = some false ∧ kitB T' "int" = some false ∧ kitB T' "tuple" = some c1 ∧ kitB T' "list" = some c2 ∧
          ((SqL K H a xs ∧ SqL K H b ys) ∨ (SqT K H a xs ∧ SqT K H b ys)) := by
        rcases hab with ⟨ha, hb⟩ | ⟨ha, hb⟩
        · exact ⟨"tuple", true, false, tyx_tup ha, tyx_tup hb, by decide +kernel, by decide +kernel, by decide +kernel, by decide +kernel, by decide +kernel, .inr ⟨SqT.of ha, SqT.of hb⟩⟩
        · exact ⟨"list", false, true, tyx_lst ha, tyx_lst hb, by decide +kernel, by decide +kernel, by decide +kernel, by decide +kernel, by decide +kernel, .inl ⟨SqL.of ha, SqL.of hb⟩⟩
      have la : LenV K (.ref a) H xs.length := hs.imp (fun z => ⟨xs, z.1, rfl⟩) fun z => ⟨xs, z.1, rfl⟩
      have lb : LenV K (.ref b) H ys.length := hs.imp (fun z => ⟨ys, z.2, rfl⟩) fun z => ⟨ys, z.2, rfl⟩
      refine ⟨_, rfl, _, .ty "bool", _, _, _, rfl, .ty _, tb, kit_ty k1, false, rfl, iteF ?_⟩
      refine ⟨_, rfl, _, .ty "str", _, _, _, rfl, .ty _, tb, kit_ty k2, false, rfl, iteF ?_⟩
      refine ⟨_, rfl, _, .ty "int", _, _, _, rfl, .ty _, tb, kit_ty k3, false, rfl, iteF ?_⟩
      refine ⟨_, rfl, _, rfl, iteF ?_⟩
      refine ⟨_, rfl, _, .ty "tuple", _, _, _, rfl, .ty _, tb, kit_ty k4, _, rfl, _, .ty "tuple", _, _, _, rfl, .ty _, ta, kit_ty k4, rfl, _, rfl, iteNS rfl ?_⟩
      refine ⟨_, rfl, _, .ty "list", _, _, _, rfl, .ty _, tb, kit_ty k5, _, rfl, _, .ty "list", _, _, _, rfl, .ty _, ta, kit_ty k5, rfl, _, rfl, iteNS rfl ?_⟩
      refine ⟨_, rfl, _, _, rfl, la, _, rfl, _, _, rfl, lb, rfl, _, rfl, iteNS (by rw [hlen]) ?_⟩
      refine ⟨_, rfl, _, _, rfl, lb, _, rfl, by omega, by omega, for_range (lo := 0) (n := ys.length) (fun i σ H' => ∃ y2, σ = [some (.ref a), some (.ref b), y2] ∧ H' = H) ⟨none, rfl, rfl⟩ ?_ ?_⟩
      · rintro i σ H' hi ⟨y2, rfl, rfl⟩
        obtain ⟨x, hx⟩ : ∃ x, xs[i]? = some x := ⟨_, List.getElem?_eq_getElem (by omega)⟩
        obtain ⟨y, hy⟩ : ∃ y, ys[i]? = some y := ⟨_, List.getElem?_eq_getElem hi⟩
        have ax : atI xs (0 + (i : Int)) = some x := by rw [Int.zero_add]; exact atI_nat hx
        have ay : atI ys (0 + (i : Int)) = some y := by rw [Int.zero_add]; exact atI_nat hy
        refine ⟨_, rfl, _, rfl, ?_⟩
        have ix : ∀ (Q : VK), (Q x H' → rIx K (.ref a) (.int (0 + (i : Int))) H' Q) := fun Q q => hs.elim (fun z => .inl ⟨a, xs, _, x, rfl, rfl, z.1, ax, q⟩) fun z => .inr (.inl ⟨a, xs, _, x, rfl, rfl, z.1, ax, q⟩)
        have iy : ∀ (Q : VK), (Q y H' → rIx K (.ref b) (.int (0 + (i : Int))) H' Q) := fun Q q => hs.elim (fun z => .inl ⟨b, ys, _, y, rfl, rfl, z.2, ay, q⟩) fun z => .inr (.inl ⟨b, ys, _, y, rfl, rfl, z.2, ay, q⟩)
        refine ix _ ⟨_, rfl, _, rfl, iy _ ⟨x, y, rfl, hp i x y hx hy, true, rfl, iteF ⟨_, rfl, rfl⟩⟩⟩
      · rintro σ H' ⟨y2, rfl, rfl⟩
        exact q
end
end Rw
namespace Rw
open PySem L2
/-! ### rows moved along -/
def mv1 (by' : Int) (r : Row) : Row := (r.1, r.2.1 + by', r.2.2 + by')
def moved (by' : Int) (rs : List Row) : List Row := rs.map (mv1 by')
def spMoved : Sp := fun vs H Q _ => ∃ (F : Hp) (v : V) (rs : List Row) (b : Int), vs = [v, .int b] ∧ Same F H ∧ (kL kRow).is F v rs ∧ rs.length ≤ 100000 ∧ RetL M0 F H kRow (· = moved b rs) Q
section
variable {P : Program} {w : World} {K : PySem.W.Frag} {mg : Str → Option Value} {base : Heap}
end
end Rw
namespace Rw
open PySem L2
/-! ### the names of rows, one by one -/
structure DKy (kvs : List (List Key × V)) (ps : List Pt) : Prop where
  keys : kvs.map (·.1) = ps.map kk
  nd : ps.Nodup
theorem DKy.nil : DKy [] [] := ⟨rfl, .nil⟩
theorem DKy.len {kvs : List (List Key × V)} {ps : List Pt} (d : DKy kvs ps) : kvs.length = ps.length := by
  have h := congrArg List.length d.keys
  rw [List.length_map, List.length_map] at h
  exact h
theorem DKy.put {kvs : List (List Key × V)} {ps : List Pt} (d : DKy kvs ps) (q : Pt) (v : V) : ∃ ps', DKy (putK kvs (kk q) v) ps' ∧ (∀ p, p ∈ ps' ↔ p ∈ ps ∨ p = q) ∧ ps'.length ≤ ps.length + 1 := by
  by_cases m : q ∈ ps
  · refine ⟨ps, ⟨?_, d.nd⟩, fun p => ⟨.inl, fun h => h.elim id fun e => e ▸ m⟩, Nat.le_succ _⟩
    have a : (kvs.any fun kv => decide (kv.1 = kk q)) = true := by
      have h1 : kk q ∈ kvs.map (·.1) := by rw [d.keys]; exact List.mem_map.mpr ⟨q, m, rfl⟩
      obtain ⟨kv, hkv, e⟩ := List.mem_map.mp h1
      exact List.any_eq_true.mpr ⟨kv, hkv, decide_eq_true e⟩
    unfold putK
    rw [if_pos a, List.map_map, ← d.keys]
    refine List.map_congr_left fun kv _ => ?_
    by_cases e : kv.1 = kk q
    · simp only [Function.comp, if_pos e]
    · simp only [Function.comp, if_neg e]
  · refine ⟨ps ++ [q], ⟨?_, ?_⟩, fun p => by simp, by simp⟩
    · have a : ¬ (kvs.any fun kv => decide (kv.1 = kk q)) = true := fun h => by
        obtain ⟨kv, hkv, e⟩ := List.any_eq_true.mp h
        have h1 : kv.1 ∈ ps.map kk := by rw [← d.keys]; exact List.mem_map.mpr ⟨kv, hkv, rfl⟩
        rw [of_decide_eq_true e] at h1
        obtain ⟨p, hp, e2⟩ := List.mem_map.mp h1
        rw [kk_inj e2] at hp
        exact m hp
      unfold putK
      rw [if_neg a, List.map_append, List.map_append, d.keys]
      rfl
    · exact List.nodup_append.mpr ⟨d.nd, by simp, fun a ha b hb e => by rw [List.mem_singleton.mp hb] at e; exact m (e ▸ ha)⟩
/-- a frame that has all tuples -/
def Full (F H : Hp) : Prop := ∀ t xs, H t = some (.tup xs) → F t = some (.tup xs)
def absb (F H : Hp) : Hp := fun b => match H b with
  | some (.tup xs) => some (.tup xs)
  | _ => F b
theorem absb_tup {F H : Hp} {b : Addr} {xs : List V} (h : H b = some (.tup xs)) : absb F H b = some (.tup xs) := by unfold absb; rw [h]
theorem absb_ne {F H : Hp} {b : Addr} (h : ∀ xs, H b ≠ some (.tup xs)) : absb F H b = F b := by
  unfold absb
  split
  · rename_i xs e; exact absurd e (h xs)
  · rfl
theorem absb_or {F H : Hp} (b : Addr) : (∃ xs, H b = some (.tup xs) ∧ absb F H b = some (.tup xs)) ∨ ((∀ xs, H b ≠ some (.tup xs)) ∧ absb F H b = F b) := by
  by_cases h : ∃ xs, H b = some (.tup xs)
  · obtain ⟨xs, h⟩ := h
    exact .inl ⟨xs, h, absb_tup h⟩
  · have h' : ∀ xs, H b ≠ some (.tup xs) := fun xs e => h ⟨xs, e⟩
    exact .inr ⟨h', absb_ne h'⟩
theorem absb_full {F H : Hp} : Full (absb F H) H := fun _ _ h => absb_tup h
theorem absb_same {F H : Hp} (s : Same F H) : Same (absb F H) H := fun b o e => by
  rcases absb_or (F := F) (H := H) b with ⟨xs, h, e'⟩ | ⟨_, e'⟩
  · rw [e'] at e; rw [h]; exact e
  · rw [e'] at e; exact s _ _ e
theorem absb_sub {F H : Hp} (s : Same F H) : Same F (absb F H) := fun b o e => by
  rcases absb_or (F := F) (H := H) b with ⟨xs, h, e'⟩ | ⟨_, e'⟩
  · rw [e', ← h]; exact s _ _ e
  · rw [e']; exact e
/-- the old frame where there was something, the new heap but for one place elsewhere -/
def lift (F H G : Hp) : Hp := fun b => match H b with
  | some _ => F b
  | none => G b
theorem lift_old {F H G : Hp} {b : Addr} (h : H b ≠ none) : lift F H G b = F b := by
  unfold lift
  split
  · rfl
  · rename_i e; exact absurd e h
theorem lift_new {F H G : Hp} {b : Addr} (h : H b = none) : lift F H G b = G b := by unfold lift; rw [h]
theorem lift_ext {F H F1 H' G : Hp} (s0 : Same F H) (X : Ext M0 F H F1 H') (s : Same G H') : Ext M0 F H (lift F H G) H' := by
  refine ⟨fun b o e => ?_, fun b o e => ?_, X.hh, X.tr, fun b e => lift_old e⟩
  · rw [lift_old (by rw [s0 _ _ e]; simp)]; exact e
  · by_cases h : H b = none
    · rw [lift_new h] at e; exact s _ _ e
    · rw [lift_old h] at e; exact X.fh _ _ (X.ff _ _ e)
theorem lift_pt {F H F1 H' G : Hp} (X : Ext M0 F H F1 H') (fu : Full F H) (s : Same G H') {v : V} {p : Pt} (h : kPt.is G v p) : kPt.is (lift F H G) v p := by
  obtain ⟨t, e, ht⟩ := h
  refine ⟨t, e, ?_⟩
  cases q : H t with
  | none => rw [lift_new q]; exact ht
  | some o =>
    rw [lift_old (by rw [q]; simp)]
    have h1 := X.same _ _ q
    rw [s _ _ ht] at h1
    rw [← Option.some.inj h1] at q
    exact fu _ _ q
structure NamesOf (rs : List Row) (qs : List Pt) : Prop where
  sort : qs.Pairwise lt2
  mem : ∀ p, p ∈ qs ↔ mem rs p
  len : qs.length ≤ 400 * rs.length
def Small (rs : List Row) : Prop := rs.length ≤ 250 ∧ ∀ r ∈ rs, 1 ≤ r.2.1 ∧ r.2.1 ≤ r.2.2 ∧ r.2.2 ≤ 400
def spNames : Sp := fun vs H Q _ => ∃ (F : Hp) (v : V) (rs : List Row), vs = [v] ∧ Same F H ∧ Full F H ∧ (kL kRow).is F v rs ∧ Small rs ∧ RetL M0 F H kPt (NamesOf rs) Q
structure TxN (mg : Str → Option Value) : Prop where
  range : mg "range" = none
  sorted : mg "sorted" = none
theorem mem_take {rs : List Row} {i : Nat} {r : Row} (h : rs[i]? = some r) (p : Pt) : mem (rs.take (i + 1)) p ↔ mem (rs.take i) p ∨ inRow r p := by
  have eT : rs.take (i + 1) = rs.take i ++ [r] := by rw [List.take_add_one, h]; rfl
  rw [eT, mem_append]
  constructor
  · rintro (z | ⟨s, hs, z⟩)
    · exact .inl z
    · rw [List.mem_singleton.mp hs] at z; exact .inr z
  · rintro (z | z)
    · exact .inl z
    · exact .inr ⟨r, List.mem_singleton.mpr rfl, z⟩
section
variable {P : Program} {w : World} {K : PySem.W.Frag} {mg : Str → Option Value} {base : Heap}
theorem ok_law_names {f : Addr} {fd : FuncData} (F0 : Fun K "_law_names" "_law_names" s_law_names f fd) (T : TxN mg) : FnOk P w K mg base CX0 1 f fd ["_law_rows_here"] spNames := by
  refine F0.ok sc_law_names (fun vs H Q E h => ?_) (fun cdv A outer s H vs Q E hr h => ?_)
  · obtain ⟨F, v, rs, rfl, _⟩ := h
    rfl
  · obtain ⟨F, v, rs, rfl, fh, fu, ⟨a, xs, rfl, ha, hp⟩, ⟨hl, hsm⟩, q⟩ := h
    have hu := hu_of hr
    refine ⟨_, pss_cons (ps_set (i := 1) sc_law_names.nd rfl (.inl rfl) pe_dnewT)
      (pss_cons (ps_for PassesOwn.never rfl (pi_list (pv 0))
          (pg_tup rfl (pgs_cons (pg_name (i := 2) sc_law_names.nd rfl (.inl rfl)) (pgs_cons (pg_name (i := 3) sc_law_names.nd rfl (.inl rfl)) (pgs_cons (pg_name (i := 4) sc_law_names.nd rfl (.inl rfl)) pgs_nil))))
        (pss_one (ps_for PassesOwn.never rfl (pi_range2 (by rfl) T.range (pa_cons (pv 3) (pa_cons (pe_op op_add (pv 4) pe_int) pa_nil))) (pg_name (i := 5) sc_law_names.nd rfl (.inl rfl))
          (pss_one (ps_dput hu (pv 1) (pe_tup (pa_cons (pv 2) (pa_cons (pv 5) pa_nil))) pe_bl rfl)))))
      (pss_one (ps_ret (pe_callB (cr_sortedDT (by rfl)) (by rfl) T.sorted (by decide +kernel) (pa_cons (pv 1) pa_nil))))), ?_⟩
    intro d nd
    have fd0 : F d = none := fh.free nd
    refine ⟨_, rfl, a, rfl, ⟨xs, SqL.of ((same_upd nd) _ _ (fh _ _ ha))⟩, for_list (K := K) (a := a) (xs := xs) (fun i σ H1 => ∃ kvs ps y2 y3 y4 y5, σ = [some (.ref a), some (.ref d), y2, y3, y4, y5] ∧ Ext M0 F H F H1 ∧ H1 d = some (.dT kvs) ∧ DKy kvs ps ∧ (∀ p, p ∈ ps ↔ mem (rs.take i) p) ∧ ps.length ≤ 400 * i)
      ⟨[], [], none, none, none, none, rfl, (Ext.refl fh).put (.inl nd) fd0, upd_same, DKy.nil, fun p => ⟨fun h => absurd h (by simp), fun h => absurd h mem_nil⟩, Nat.le_refl _⟩ (fun i σ H1 _ ⟨_, _, _, _, _, _, _, X1, _⟩ => SqL.of (X1.fh _ _ ha)) ?_ ?_⟩
    · rintro i x σ H1 hi ⟨kvs, ps, y2, y3, y4, y5, rfl, X1, hd, hk, hm, hn⟩
      obtain ⟨r, hri, t, rfl, ht⟩ := pr_get hp hi
      obtain ⟨r1, r2, r3⟩ := hsm _ (List.mem_of_getElem? hri)
      have i250 : i < 250 := by
        have := (List.getElem?_eq_some_iff.mp hri).1
        omega
      refine ⟨t, _, rfl, SqT.of (X1.fh _ _ ht), rfl, _, _, rfl, _, _, rfl, _, _, rfl, rfl, ?_⟩
      refine ⟨_, rfl, _, rfl, _, _, rfl, rfl, r.2.1, r.2.2 + 1, rfl, ⟨by omega, by omega, by omega, by omega⟩, for_range (lo := r.2.1) (n := (r.2.2 + 1 - r.2.1).toNat) (fun j σ H' => ∃ kvs ps y5, σ = [some (.ref a), some (.ref d), some (.int r.1), some (.int r.2.1), some (.int r.2.2), y5] ∧ Ext M0 F H F H' ∧ H' d = some (.dT kvs) ∧ DKy kvs ps ∧ (∀ p, p ∈ ps ↔ mem (rs.take i) p ∨ (p.1 = r.1 ∧ r.2.1 ≤ p.2 ∧ p.2 < r.2.1 + (j : Int))) ∧ ps.length ≤ 400 * i + j)
        ⟨kvs, ps, y5, rfl, X1, hd, hk, fun p => by rw [hm p]; exact ⟨.inl, fun z => z.elim id fun z => absurd z (by omega)⟩, hn⟩ ?_ ?_⟩
      · rintro j σ H2 hj ⟨kvs2, ps2, y5', rfl, X2, hd2, hk2, hm2, hn2⟩
        have hj4 : j < 400 := by omega
        refine ⟨_, rfl, _, rfl, _, rfl, (by show 2 ≤ sizeLine; decide), fun k1 nk1 => ?_⟩
        have dk1 : d ≠ k1 := ne_of_none hd2 nk1
        have hd3 : upd H2 k1 (.tup [.int r.1, .int (r.2.1 + (j : Int))]) d = some (.dT kvs2) := by rw [upd_ne dk1]; exact hd2
        obtain ⟨ps3, hk3, hm3, hn3⟩ := hk2.put (r.1, r.2.1 + (j : Int)) (.bl true)
        refine ⟨d, _, rfl, DPut.t (k := kk (r.1, r.2.1 + (j : Int))) hd3 upd_same (by rw [hk2.len, sizeLine_eq]; omega), ?_⟩
        refine ⟨_, ps3, _, rfl, (X2.tmp nk1).put (.inl nd) fd0, upd_same, hk3, fun p => ?_, by omega⟩
        rw [hm3 p, hm2 p]
        constructor
        · rintro ((z | z) | z)
          · exact .inl z
          · exact .inr (by omega)
          · rw [z]; exact .inr ⟨rfl, by simp only; omega, by simp only; omega⟩
        · rintro (z | z)
          · exact .inl (.inl z)
          · by_cases e : p.2 = r.2.1 + (j : Int)
            · exact .inr (Prod.ext z.1 e)
            · exact .inl (.inr (by omega))
      · rintro σ H2 ⟨kvs2, ps2, y5', rfl, X2, hd2, hk2, hm2, hn2⟩
        refine ⟨kvs2, ps2, _, _, _, _, rfl, X2, hd2, hk2, fun p => ?_, by omega⟩
        rw [hm2 p, mem_take hri p]
        refine or_congr Iff.rfl ?_
        unfold inRow
        constructor
        · rintro ⟨z1, z2, z3⟩; exact ⟨z1.symm, z2, by omega⟩
        · rintro ⟨z1, z2, z3⟩; exact ⟨z1.symm, z2, by omega⟩
    · rintro σ H1 ⟨kvs, ps, y2, y3, y4, y5, rfl, X1, hd, hk, hm, hn⟩
      rw [pr_len hp, List.take_length] at hm
      refine ⟨_, rfl, d, kvs, ps, rfl, hd, hk.keys, hk.nd, fun ys qs p hys hperm hsort np => ?_⟩
      have X2 := lift_ext fh X1 (Same.refl H1)
      have X3 := X2.tmp (o := .lst ys) np
      have fp : lift F H H1 p = none := X2.ffree np
      refine q _ _ p ys qs X3 (X1.free np) fp upd_same (pr_mono (fun _ _ z => lift_pt X1 fu (Same.refl H1) z) hys) ⟨hsort, fun p => by rw [hperm.mem_iff, hm p], ?_⟩
      rw [hperm.length_eq]
      have := pr_len hp
      omega
end
end Rw
namespace Rw
open PySem PySem.Spec PyProof.Rows L2
/-! ### dict(xs), xs a list of pairs (pair, True), all of them apart -/
theorem stored_apart : ∀ (ps acc : List (List Key × Addr × Value)), ((acc ++ ps).map (·.1)).Nodup → PySem.storedAllH acc ps = acc ++ ps
  | [], acc, _ => by simp [PySem.storedAllH]
  | p :: ps, acc, nd => by
    have new : atKey acc p.1 = none := atKey_none_of_get fun j z e => by
      rw [List.map_append, List.map_cons] at nd
      have m : p.1 ∈ acc.map (·.1) := List.mem_map.mpr ⟨_, List.mem_of_getElem? e, rfl⟩
      exact (List.nodup_append.mp nd).2.2 _ m _ List.mem_cons_self rfl
    have e : PySem.storedAllH acc (p :: ps) = PySem.storedAllH (storedH acc p.1 p.2.1 p.2.2) ps := rfl
    rw [e, storedH_new new, stored_apart ps _ (by simpa using nd)]
    simp
section
variable {X : Cx}
def rDictT : List V → Hp → VK → Prop := fun xs H Q => ∃ (a : Addr) (es : List (Addr × Addr × Pt)), xs = [.ref a] ∧ H a = some (.lst (es.map fun e => V.ref e.1)) ∧ (∀ e ∈ es, H e.1 = some (.tup [.ref e.2.1, .bl true]) ∧ H e.2.1 = some (.tup [.int e.2.2.1, .int e.2.2.2])) ∧ (es.map (·.2.2)).Nodup ∧
  ∀ p, H p = none → Q (.ref p) (upd H p (.dT ((es.map (·.2.2)).map fun q => (kk q, V.bl true))))
theorem cr_dictT (hc : X.calm = true) (hu : X.A.units + 64 < cLine) : CallR X (.type "dict") rDictT := by
  intro pins s σ H xs us Q I r h
  obtain ⟨a, es, rfl, ha, he, nd, q⟩ := h
  rw [Vals.ref1 r]
  obtain ⟨its, rv, pl, hz⟩ := I.list (SqL.of ha)
  rw [List.length_map] at hz
  have ei : its = es.map fun e => Value.ref e.1 := by
    have z : ∀ (l : List (Addr × Addr × Pt)) (us : List Value), Vals (l.map fun e => V.ref e.1) us → us = l.map fun e => Value.ref e.1 := by
      intro l
      induction l with
      | nil => intro us r; cases r; rfl
      | cons e l ih => intro us r; cases r with
        | cons r1 r2 => cases r1; rw [ih _ r2]; rfl
    exact z es its rv
  subst ei
  have pl' : PySem.PlainSeq "list" s.heap a (es.map fun e => Value.ref e.1).toArray := by
    obtain ⟨o, n, ho, hcl, hd, hdat⟩ := pl
    exact ⟨o, n, ho, hcl, hd, hdat⟩
  have pa : ∀ e ∈ es, PySem.PairAt s.heap e.1 (.ref e.2.1) (.bool true) := fun e hm => by
    obtain ⟨_, its2, r2, tp⟩ := I.hok _ _ (he e hm).1
    obtain ⟨u1, u2, rfl, ri, rj⟩ := vals2 r2
    cases ri
    cases rj
    exact .inl tp
  have items : PySem.PairItems s.heap (es.map fun e => Value.ref e.1).toArray (fun j => (es.getD j (0, 0, (0, 0))).1) (es.map fun e => (Value.ref e.2.1, Value.bool true)) := by
    refine ⟨by simp, fun j k v e => ?_⟩
    rw [List.getElem?_map] at e
    cases g : es[j]? with
    | none => rw [g] at e; cases e
    | some x =>
      rw [g] at e
      cases e
      have gd : es.getD j (0, 0, (0, 0)) = x := by rw [List.getD_eq_getElem?_getD, g]; rfl
      refine ⟨by simp [g, gd], ?_⟩
      show PySem.PairAt s.heap (es.getD j (0, 0, (0, 0))).1 _ _
      rw [gd]
      exact pa x (List.mem_of_getElem? g)
  have nd2 : (es.map fun e => kk e.2.2).Nodup := by
    refine List.pairwise_map.mpr ((List.pairwise_map.mp nd).imp ?_)
    intro a b n e
    exact n (kk_inj e)
  have isk : ∀ e ∈ es, (tupleKind (mixKind X.prog X.w)).is s.heap (kk e.2.2) e.2.1 := fun e hm => key_of I.hok (he e hm).2
  refine PySem.call_dict_pairsH (knd := tupleKind (mixKind X.prog X.w)) (ps := es.map fun e => (kk e.2.2, e.2.1, Value.bool true)) (PySem.PairArg.list a _ _ (es.map fun e => (Value.ref e.2.1, Value.bool true))) (I.ok.hd hc) ?room ⟨pl', items⟩ ⟨by simp, fun i key v rel => ?_⟩ (fun h' k x hx => ?_) (by simpa using hz) fun h' tk hd k => ?_
  case room => show X.A.in1.in1.units < cLine; show X.A.units + 1 + 1 < cLine; omega
  · have rel : (es.map fun e => (Value.ref e.2.1, Value.bool true))[i]? = some (key, v) := rel
    rw [List.getElem?_map] at rel
    cases g : es[i]? with
    | none => rw [g] at rel; cases rel
    | some x =>
      rw [g] at rel
      cases rel
      exact ⟨kk x.2.2, x.2.1, by rw [List.getElem?_map, g]; rfl, rfl⟩
  · obtain ⟨e, hm, rfl⟩ := List.mem_map.mp hx
    obtain ⟨o, its', n, ho, rest⟩ := isk e hm
    exact ⟨o, its', n, k _ o (Nat.ne_of_lt (Heap.lt_size ho)) (by simp) ho, rest⟩
  · have st : PySem.storedAllH ([] : List (List Key × Addr × Value)) (es.map fun e => (kk e.2.2, e.2.1, Value.bool true)) = es.map fun e => (kk e.2.2, e.2.1, Value.bool true) := by
      rw [stored_apart _ _ (by rw [List.nil_append, List.map_map]; exact nd2)]
      rfl
    rw [st] at hd
    have new : H s.heap.objs.size = none := I.hok.fresh (Nat.le_refl _)
    have kt : ∀ (o : HO) (M : List (Addr × Addr × Pt)), (∀ e ∈ M, e ∈ es) → KT (upd H s.heap.objs.size o) ((M.map (·.2.2)).map fun q => (kk q, V.bl true)) (M.map fun e => (kk e.2.2, e.2.1, Value.bool true)) := by
      intro o M
      induction M with
      | nil => exact fun _ => .nil
      | cons e M ih => exact fun sub => .cons ⟨rfl, (upd_ne (ne_of_none (he e (sub e List.mem_cons_self)).2 new)).trans (he e (sub e List.mem_cons_self)).2, rfl⟩ (ih fun x hx => sub x (List.mem_cons_of_mem _ hx))
    obtain ⟨od, esd, epd, q1, q2, q3, q4, _, q6⟩ := hd
    exact ⟨.ref s.heap.objs.size, _, I.laid (t' := tk) (fun b o e => k b o (by simp) e) (Nat.le_refl _) (show ObjOk X.prog X.w _ _ _ (.dT ((es.map (·.2.2)).map fun q => (kk q, V.bl true))) from ⟨by simpa using hz, beq_eq_false_iff_ne.mpr (Nat.ne_of_gt I.big), _, kt _ es (fun _ z => z), od, esd, epd, q1, q2, q3, q4, q6⟩), rfl, q _ (I.hok.fresh (Nat.le_refl _))⟩
end
end Rw
namespace Rw
open PySem PySem.Spec PyProof.Rows L2
/-! ### {k: v for ..} whose keys are tuples -/
section
variable {X : Cx}
/-- one entry put by a comprehension -/
theorem put_entry {pins : List (Addr × Obj)} {σ : L2.St} {H : Hp} {s : Shared} {E : Value → Shared → Prop} {D kp : Addr} {kvs : List (List Key × V)} {k : List Key} {v : V} {u : Value} {R : Unit → Shared → Prop} (room : X.A.units + 1 < cLine) (I : Inv X pins σ H s)
    (hD : H D = some (.dT kvs)) (hk : H kp = some (.tup (k.map kV))) (few : kvs.length < sizeLine) (ru : RelV v u) (go : ∀ s', Inv X pins σ (upd H D (.dT (putK kvs k v))) s' → R () s') :
    wpAny (model X.prog X.w) X.A (dictSet D (.ref kp) u) R E s := by
  obtain ⟨z, sysm, rows, rel, at'⟩ := dt_of I.hok hD
  have rowsLe : rows.length ≤ sizeLine := by rw [← Paired.length rel]; exact z
  have newLe : (putK kvs k v).length ≤ sizeLine := Nat.le_trans (length_putK kvs k v) few
  have room' : (tupleKind (mixKind X.prog X.w)).room X.A := by show X.A.units < cLine; omega
  refine wpAny_dictSet_heap (hsz := rowsLe) room' (key_of I.hok hk) at' fun g at2 but => go _ ?_
  obtain ⟨od, es, ep, q1, q2, q3, q4, _, q6⟩ := at2
  refine d_write I (by rw [hD]; exact True.intro) but ⟨od, q1⟩ ⟨newLe, sysm, _, (rel.put k hk ru).keeps fun c ys old => ?_, od, es, ep, q1, q2, q3, q4, q6⟩
  rw [upd_ne (ne_of old hD fun z => nomatch z)]
  exact old
/-- D the new dict; a turn's key is a tuple at an address -/
def tDcT (wi : TI) (g : TG) (tt : TT) (tk tv : TE) (vs : List Nat) : TE := fun σ H Q => wi σ H fun J H1 => ∀ D, H1 D = none → ∃ W : Nat → Nat → Hp → Prop, (∃ m, W 0 m (upd H1 D (.dT []))) ∧ ∀ i m H, W i m H →
  (J.stop i H ∧ Q (.ref D) H) ∨ (J.go i H ∧ ∃ Nx : Hp → Prop, (∀ H', Nx H' → ∃ m', m' < m ∧ W (i + 1) m' H') ∧ ∀ x H', J.yld i H x H' → g x (wipe σ vs) H' fun σ2 H2 => wipe σ2 vs = wipe σ vs ∧ tt σ2 H2 fun b H3 =>
    if b = true then tk σ2 H3 fun y H4 => tv σ2 H4 fun z H5 => ∃ kvs k kp, y = .ref kp ∧ H5 kp = some (.tup (k.map kV)) ∧ H5 D = some (.dT kvs) ∧ kvs.length < sizeLine ∧ Nx (upd H5 D (.dT (putK kvs k z))) else Nx H3)
theorem dct_run {pins : List (Addr × Obj)} {s : Shared} {σ : L2.St} {H : Hp} {Q : VK} {kx vx tg iter : Expr} {ifs : List Expr} {scope : Scope} {own : List (Str × Nat)} {pos pos' : Pos} {wi : TI} {g : TG} {tt : TT} {tk tv : TE} {use : Option (Value → Sem Unit)} {Qf : Value → Shared → Prop}
    (calm : X.calm = true) (room : X.A.units + 1 < cLine) (hN : X.N.Nodup) (I : Inv X pins σ H s) (walk : PI X tg iter wi) (blk : BlkOk X.N X.env.scope scope own)
    (pg : ∀ (s : Shared) (H : Hp) (C : Addr) (cl : List (Str × Addr)) (fp : List Addr), PG (X.blk s H scope (compEnvC scope cl C X.env) fp) tg g)
    (pt : ∀ (s : Shared) (H : Hp) (C : Addr) (cl : List (Str × Addr)) (fp : List Addr), PTs (X.blk s H scope (compEnvC scope cl C X.env) fp) ifs tt)
    (pk : ∀ (s : Shared) (H : Hp) (C : Addr) (cl : List (Str × Addr)) (fp : List Addr), PE (X.blk s H scope (compEnvC scope cl C X.env) fp) kx tk)
    (pv' : ∀ (s : Shared) (H : Hp) (C : Addr) (cl : List (Str × Addr)) (fp : List Addr), PE (X.blk s H scope (compEnvC scope cl C X.env) fp) vx tv) (fold : ∀ x, foldedSetIterable iter X.env x = pure x)
    (reading : tDcT wi g tt tk tv (own.map (·.2)) σ H Q)
    (leave : ∀ D C s' m H', Inv X pins σ H' s' → Q (.ref D) H' → s'.heap.Ns C m → FpOk X pins H' C → compPost (model X.prog X.w) X.A X.xe use Qf (.ref D) C (.ok .next) s') :
    wpAny (model X.prog X.w) X.A (comprehension (.DictComp kx vx [⟨tg, iter, ifs, 0⟩] scope pos) scope X.env pos' newDict false (eval iter X.env) use) Qf X.xe s := by
  have caps : ∀ y ∈ scope.names, y.2 = .free → ∃ c, X.env.cells.lookup y.1 = some c := fun y hy e => (blk.free y hy e).elim (fun k => I.ok.has _ (.inl k)) fun k => I.ok.has _ (.inr k)
  refine wpAny_comprehension_free (use := use) rfl fold (closure_ok caps) blk.kind (fun y hy e => by rw [blk.uniq y hy, e]) (thn (walk.run pins s σ H _ I reading) fun _ sa ha => thn ha fun _ sb hb => ?_)
  obtain ⟨it, fp, tn, J, Hb, rfl, Ib, T, stb, fpb, q⟩ := hb
  refine wpAny_newObj_type (newEnv_comp ?_)
  -- the new dict
  obtain ⟨D, eD⟩ : ∃ D, sb.heap.objs.size = D := ⟨_, rfl⟩
  rw [eD]
  have freeD : Hb D = none := Ib.hok.fresh (Nat.le_of_eq eD)
  obtain ⟨W, ⟨m0, w0⟩, turn⟩ := q D freeD
  obtain ⟨sc, esc⟩ : ∃ sc : Shared, ({ sb with heap := sb.heap.push { cls := .type "dict", data := .dict #[] } } : Shared) = sc := ⟨_, rfl⟩
  have hsc : sc.heap = sb.heap.push { cls := .type "dict", data := .dict #[] } := by rw [← esc]
  have Ic : Inv X pins σ (upd Hb D (.dT [])) sc := by
    subst esc eD
    exact Ib.laid (t' := sb.toks) (fun b o e => Heap.get?_push_of_some _ e) (Nat.le_refl _) (dt_empty sb.heap Ib.big)
  have old : ∀ b ∈ fp, b < sb.heap.objs.size := fun b hb => let ⟨o, e, _⟩ := T.obj _ _ stb b hb; Heap.lt_size e
  have fpc : ∀ b ∈ fp, FpOk X pins (upd Hb D (.dT [])) b ∧ b < sc.heap.objs.size := fun b hb =>
    ⟨⟨by rw [upd_ne (by rw [← eD]; exact Nat.ne_of_lt (old b hb))]; exact (fpb b hb).1, (fpb b hb).2⟩, by rw [hsc, Heap.size_push]; exact Nat.lt_succ_of_lt (old b hb)⟩
  have stc : tn 0 sc.heap := T.keep _ _ _ stb fun b _ o e => by rw [hsc]; exact Heap.get?_push_of_some _ e
  have Id := block_start Ic blk hN fpc
  have pg' := pg sc (upd Hb D (.dT [])) sc.heap.objs.size (cellsFrom (sc.heap.objs.size + 1) scope.names (cloFrom X.env.cells scope.names [])) fp
  have pt' := pt sc (upd Hb D (.dT [])) sc.heap.objs.size (cellsFrom (sc.heap.objs.size + 1) scope.names (cloFrom X.env.cells scope.names [])) fp
  have pk' := pk sc (upd Hb D (.dT [])) sc.heap.objs.size (cellsFrom (sc.heap.objs.size + 1) scope.names (cloFrom X.env.cells scope.names [])) fp
  have pv'' := pv' sc (upd Hb D (.dT [])) sc.heap.objs.size (cellsFrom (sc.heap.objs.size + 1) scope.names (cloFrom X.env.cells scope.names [])) fp
  have fpn : ∀ b ∈ fp, (upd Hb D (.dT [])) b = none := fun b hb => (fpc b hb).1.1
  rw [esc]
  generalize upd Hb D (.dT []) = Hc at Ic Id pg' pt' pk' pv'' w0 fpn fpc
  obtain ⟨ce, ece⟩ : ∃ ce, compEnvC scope (cellsFrom (sc.heap.objs.size + 1) scope.names (cloFrom X.env.cells scope.names [])) sc.heap.objs.size X.env = ce := ⟨_, rfl⟩
  have ceL : ce.locals = sc.heap.objs.size := by rw [← ece]; rfl
  show codeAny _ _ (.compStart (.DictComp kx vx [⟨tg, iter, ifs, 0⟩] scope pos) 0 (.ref it) (.ref D) (compEnvC scope (cellsFrom (sc.heap.objs.size + 1) scope.names (cloFrom X.env.cells scope.names [])) sc.heap.objs.size X.env))
    (compPost (model X.prog X.w) X.A X.xe use Qf (.ref D) sc.heap.objs.size) { sc with heap := pushCells (sc.heap.push { cls := .type "dict", data := .dict #[] }) scope.names }
  rw [ece] at Id pg' pt' pk' pv'' ⊢
  obtain ⟨sd, esd⟩ : ∃ sd : Shared, ({ sc with heap := pushCells (sc.heap.push { cls := .type "dict", data := .dict #[] }) scope.names } : Shared) = sd := ⟨_, rfl⟩
  rw [esd] at Id ⊢
  have std : tn 0 sd.heap := T.keep _ _ _ stc fun b _ o e => by rw [← esd]; exact pushCells_keeps _ _ _ _ (Heap.get?_push_of_some _ e)
  -- the walked thing's own objects, in the block
  have still : ∀ {σ' : L2.St} {H' : Hp} {s' : Shared}, Inv (X.blk sc Hc scope ce fp) [] σ' H' s' → (∀ b ∈ fp, H' b = none) → ∀ b ∈ fp, FpOk (X.blk sc Hc scope ce fp) [] H' b := fun J' n b hb =>
    ⟨n b hb, (J'.ok.exf b hb).1, J'.ok.exfs b hb, .inl hb, fun x c e => (J'.ok.exf b hb).2 x c e, fun p hp => absurd (show p ∈ ([] : List (Addr × Obj)) ++ [] from hp) (by simp)⟩
  have loop : codeAny (model X.prog X.w) X.A (.compLoop (.DictComp kx vx [⟨tg, iter, ifs, 0⟩] scope pos) 0 (.ref it) (.ref D) ce) (compPost (model X.prog X.w) X.A X.xe use Qf (.ref D) sc.heap.objs.size) sd := by
    refine compLoop_anyD (fun n s' => ∃ i H', Inv (X.blk sc Hc scope ce fp) [] (wipe σ (own.map (·.2))) H' s' ∧ tn i s'.heap ∧ (∀ b ∈ fp, H' b = none) ∧ W i n H') ?_ m0 ⟨0, Hc, Id, std, fpn, w0⟩
    rintro n t ⟨i, Ht, It, stt, nt, wt⟩
    rcases turn i n Ht wt with ⟨stop, done⟩ | ⟨more, Nx, smaller, step⟩
    · refine thnF (T.done (X.blk sc Hc scope ce fp) rfl rfl rfl calm i [] t _ Ht (fun _ _ => False) It (still It nt) stt stop) fun r t1 ⟨er, It1⟩ => ?_
      subst er
      have back : Inv X pins σ Ht t1 := Ic.call' (ch := fp) It1.os It1.base It1.hok It1.bare fun b hb => ⟨(fpc b hb).1.2.2.2.1, (fpc b hb).1.2.1, (fpc b hb).1.2.2.2.2.1, (fpc b hb).1.2.2.2.2.2⟩
      have freeC : Ht sc.heap.objs.size = none := by rw [← ceL]; exact It1.free
      obtain ⟨m, ns, _⟩ := It1.loc
      exact leave D sc.heap.objs.size t1 m Ht back done (by rw [← ceL]; exact ns) (Ic.fpOk (Nat.le_refl _) freeC)
    · refine thnF (T.item (X.blk sc Hc scope ce fp) rfl rfl rfl calm i [] t _ Ht (fun _ _ => False) It (still It nt) stt more) fun r t1 ⟨u, er, h1⟩ => ?_
      subst er
      refine thnF h1 fun _ t2 ⟨x, H2, I2, r2, y2, st2, n2⟩ => ?_
      have I2p := I2.pinned (still I2 n2) (T.obj _ _ st2)
      refine thnF (pg'.run _ t2 _ H2 x u _ I2p r2 (step x H2 y2)) fun _ t3 ⟨σ3, H3, I3, same3, q3⟩ => thnF (pt'.run _ t3 σ3 H3 _ I3 q3) fun b t4 ⟨H4, I4, q4⟩ => ?_
      have close : ∀ {s' : Shared} {H' : Hp}, Inv (X.blk sc Hc scope ce fp) ([] ++ pinsAt fp t2.heap) σ3 H' s' → Nx H' →
          ∃ m, m < n ∧ ∃ i H', Inv (X.blk sc Hc scope ce fp) [] (wipe σ (own.map (·.2))) H' s' ∧ tn i s'.heap ∧ (∀ b ∈ fp, H' b = none) ∧ W i m H' := fun {s' H'} J' nx => by
        obtain ⟨m', lt, w'⟩ := smaller H' nx
        have kept : ∀ b ∈ fp, ∀ o, t2.heap.get? b = some o → s'.heap.get? b = some o ∧ H' b = none := fun b hb o e => by
          have z := J'.pin (b, o) (List.mem_append_right _ (List.mem_append_right _ (mem_pinsAt hb e)))
          exact ⟨z.1, z.2.1⟩
        refine ⟨m', lt, i + 1, H', (J'.unpinned (pins := [])).weak (by rw [← same3, wipe_length]) (fun j v e => (wipe_some (by rw [same3]; exact e)).1), T.keep _ _ _ st2 fun b hb o e => (kept b hb o e).1, fun b hb => ?_, w'⟩
        obtain ⟨o, e, _⟩ := T.obj _ _ st2 b hb
        exact (kept b hb o e).2
      cases b with
      | false =>
        rw [if_neg Bool.false_ne_true] at q4
        rw [if_neg Bool.false_ne_true]
        exact close I4 q4
      | true =>
        rw [if_pos rfl] at q4
        rw [if_pos rfl]
        refine thnF (pk'.run _ t4 σ3 H4 _ I4 q4) fun ku t5 ⟨yk, H5, I5, r5, q5⟩ => thnF (pv''.run _ t5 σ3 H5 _ I5 q5) fun vu t6 ⟨yv, H6, I6, r6, kvs, k, kp, ek, hk, hD, few, nx⟩ => ?_
        subst ek
        cases r5
        exact put_entry (X := X.blk sc Hc scope ce fp) room I6 hD hk few r6 fun t7 I7 => close I7 nx
  exact codeAny_compStart_dict loop (T.self X.A 0 _ _ _ std loop)
theorem pe_dcT {kx vx tg iter : Expr} {ifs : List Expr} {scope : Scope} {own : List (Str × Nat)} {pos : Pos} {wi : TI} {g : TG} {tt : TT} {tk tv : TE} (calm : X.calm = true) (room : X.A.units + 1 < cLine) (hN : X.N.Nodup) (walk : PI X tg iter wi) (blk : BlkOk X.N X.env.scope scope own)
    (pg : ∀ (s : Shared) (H : Hp) (C : Addr) (cl : List (Str × Addr)) (fp : List Addr), PG (X.blk s H scope (compEnvC scope cl C X.env) fp) tg g)
    (pt : ∀ (s : Shared) (H : Hp) (C : Addr) (cl : List (Str × Addr)) (fp : List Addr), PTs (X.blk s H scope (compEnvC scope cl C X.env) fp) ifs tt)
    (pk : ∀ (s : Shared) (H : Hp) (C : Addr) (cl : List (Str × Addr)) (fp : List Addr), PE (X.blk s H scope (compEnvC scope cl C X.env) fp) kx tk)
    (pv' : ∀ (s : Shared) (H : Hp) (C : Addr) (cl : List (Str × Addr)) (fp : List Addr), PE (X.blk s H scope (compEnvC scope cl C X.env) fp) vx tv) (fold : ∀ x, foldedSetIterable iter X.env x = pure x := by intro _; rfl) :
    PE X (.DictComp kx vx [⟨tg, iter, ifs, 0⟩] scope pos) (tDcT wi g tt tk tv (own.map (·.2))) := by
  refine ⟨fun pins s σ H Q I h => ?_⟩
  rw [arm_eval_DictComp]
  refine dct_run calm room hN I walk blk pg pt pk pv' fold h fun D C s' m H' J q ns f => ⟨m, ns, fun g' but => ?_⟩
  obtain ⟨f0, f1, f2, f3, f4, f5⟩ := f
  exact ⟨.ref D, H', J.turned (t' := s'.toks) (fun b o hb e => (but.2 b hb).trans e) f0 f1 f3 f4 f5, rfl, q⟩
/-- y = {k: v for ..}, stored while the comprehension's frame stands -/
theorem ps_setDcT {i : Nat} {y : Str} {py : Pos} {kx vx tg iter : Expr} {ifs : List Expr} {scope : Scope} {own : List (Str × Nat)} {pos spos : Pos} {wi : TI} {g : TG} {tt : TT} {tk tv : TE} (calm : X.calm = true) (room : X.A.units + 1 < cLine) (hN : X.N.Nodup) (hy : X.N[i]? = some y) (loc : X.env.scope.names.lookup y = some .local)
    (sw : swapsWith (.DictComp kx vx [⟨tg, iter, ifs, 0⟩] scope pos) (some (.Name y py)) spos.line X.env = pure true) (walk : PI X tg iter wi) (blk : BlkOk X.N X.env.scope scope own)
    (pg : ∀ (s : Shared) (H : Hp) (C : Addr) (cl : List (Str × Addr)) (fp : List Addr), PG (X.blk s H scope (compEnvC scope cl C X.env) fp) tg g)
    (pt : ∀ (s : Shared) (H : Hp) (C : Addr) (cl : List (Str × Addr)) (fp : List Addr), PTs (X.blk s H scope (compEnvC scope cl C X.env) fp) ifs tt)
    (pk : ∀ (s : Shared) (H : Hp) (C : Addr) (cl : List (Str × Addr)) (fp : List Addr), PE (X.blk s H scope (compEnvC scope cl C X.env) fp) kx tk)
    (pv' : ∀ (s : Shared) (H : Hp) (C : Addr) (cl : List (Str × Addr)) (fp : List Addr), PE (X.blk s H scope (compEnvC scope cl C X.env) fp) vx tv) (fold : ∀ x, foldedSetIterable iter X.env x = pure x := by intro _; rfl) :
    PS X (.Assign [.Name y py] (.DictComp kx vx [⟨tg, iter, ifs, 0⟩] scope pos) spos) (tAsg (tDcT wi g tt tk tv (own.map (·.2))) (gName i)) := by
  refine ⟨fun pins s σ H D I h => ?_⟩
  rw [exec_Assign_Name_used _ _ _ _ sw]
  refine wpAny_bind (wpAny_standAt (wpAny_bind ?_))
  show wpAny _ X.A (do let _ ← comprehension (.DictComp kx vx [⟨tg, iter, ifs, 0⟩] scope pos) scope X.env (firstIterPos [⟨tg, iter, ifs, 0⟩] pos) newDict false (eval iter X.env) (some (assign (.Name y py) X.env))) _ _ s
  have reading : tDcT wi g tt tk tv (own.map (·.2)) σ H (fun x H1 => gName i x σ H1 D.nx) := h
  refine wpAny_bind (thn (dct_run (Qf := fun _ s' => SP X pins D .next s') calm room hN I walk blk pg pt pk pv' fold reading fun L C s' m H' J q ns f => ?_) fun _ s' hq => wpAny_pure (wpAny_pure hq))
  show wpAny _ _ (assign (.Name y py) X.env (.ref L)) _ _ _
  refine wpAny_assign_Name (store_ok2 (v := V.ref L) J hN hy (.inl loc) rfl (fun s2 J2 ⟨a, but, ha⟩ => ?_) (.inr loc))
  obtain ⟨f0, f1, f2, f3, f4, f5⟩ := f
  have apart : C ≠ a := ha.elim (fun z => by rw [z]; exact f1) fun z e => f4 y a z e.symm
  exact ⟨m, ns.sameBut but apart, fun h3 b3 => ⟨_, H', J2.turned (t' := s2.toks) (fun b o hb e => (b3.2 b hb).trans e) f0 f1 f3 f4 f5, q⟩⟩
theorem sw_dict {kx vx : Expr} {gs : List Comprehension} {scope : Scope} {pos py : Pos} {y : Str} {l : Nat} {env : Env} (kind : env.scope.kind = .function) (loc : env.scope.names.lookup y = some .local) (line : (py.line == pos.line) = true)
    (apart : (scope.names.any fun (n, k) => n == y && (k == .local || k == .cell)) = false) : swapsWith (.DictComp kx vx gs scope pos) (some (.Name y py)) l env = pure true := by
  have k1 : env.kindOf y = some .local := loc
  have k2 : env.blockKind = .function := by unfold Env.blockKind; rw [kind]; rfl
  unfold swapsWith
  simp only [k2, k1, apart, Expr.pos, line]
  rfl
end
end Rw
namespace Rw
open PySem PySem.Spec PySem.Calls PyProof.Rows L2
/-! ### a deed's stamp, as a call that leaves all that stood -/
section
variable {P : Program} {w : World} {K : PySem.W.Frag}
def dSt (t h n : Int) : PyData := .tuple [.int t, .int h, .int n]
theorem stamp_run {f t : Addr} {fd : FuncData} (F0 : Fun K "stamp" "stamp" s_stamp f fd) {A : Around} {s : Shared} {E : Value → Shared → Prop} {h n m : Int} {th tn tm : Tok} {x : Value} (KX : K.In s.heap) (lim : s.heap.NoLimit) (room : A.depth < recursionLimit) (calm : A.handled = none)
    (tp : IsTup s.heap t #[.int h th, .int n tn, .int m tm, x]) : wpAny (model P w) A (call (.ref f) [.ref t]) (PySem.W.KeyPure (dSt m h n) s) E s := by
  obtain ⟨oc, od, kV, doc, pm, an, cdv, ct, osl, rfl, lk, hcd⟩ := F0.ex
  refine wpAny_call (codeAny_call_straight (body := defBody s_stamp) (binds := [("deed", .ref t)]) room (KX _ _ lk) rfl lim (PySem.W.codeRec_of KX hcd) rfl rfl (show ∀ q ∈ (defScope s_stamp).names, q.2 ≠ NameKind.cell by decide +kernel) (fun y hy => ?_) fun s1 y => ?_)
  · rw [List.mem_singleton.mp hy]; exact (show (defScope s_stamp).names.lookup ("deed" : Str) = some .local by decide +kernel)
  · obtain ⟨h1, k1, rfl⟩ := y.same
    have F1 : Fr s.heap s.heap.objs.size h1 (fun x => ([("deed", Value.ref t)] : List (Str × Value)).reverse.lookup x) := ⟨y.ns, y.keep, Nat.le_refl _⟩
    have tp1 : IsTup h1 t #[.int h th, .int n tn, .int m tm, x] := by
      obtain ⟨o, ho, rest⟩ := tp
      exact ⟨o, y.keep _ _ ho, rest⟩
    refine wpAny_execs_cons (Assign_Tuple (wpAny_Name (wpAny_loadName_local rfl (show (defScope s_stamp).names.lookup ("deed" : Str) = some .local by decide +kernel) F1.ns rfl ?_)))
    refine assign_Tuple_tuple (by exact calm) tp1 rfl rfl fun h2 e2 => ?_
    have F2 := F1.extBut e2 (Nat.le_refl _)
    refine assignInOrder_cons (assign_Name (wpAny_storeName_local (show (defScope s_stamp).names.lookup ("house" : Str) = some .local by decide +kernel) F2.ns fun h3 n3 b3 => ?_))
    have F3 := F2.set n3 b3
    refine assignInOrder_cons (assign_Name (wpAny_storeName_local (show (defScope s_stamp).names.lookup ("number" : Str) = some .local by decide +kernel) F3.ns fun h4 n4 b4 => ?_))
    have F4 := F3.set n4 b4
    refine assignInOrder_cons (assign_Name (wpAny_storeName_local (show (defScope s_stamp).names.lookup ("time" : Str) = some .local by decide +kernel) F4.ns fun h5 n5 b5 => ?_))
    have F5 := F4.set n5 b5
    refine assignInOrder_cons (assign_Name (wpAny_storeName_local (show (defScope s_stamp).names.lookup ("_" : Str) = some .local by decide +kernel) F5.ns fun h6 n6 b6 => ?_))
    have F6 := F5.set n6 b6
    refine assignInOrder_nil ?_
    refine wpAny_execs_cons (wpAny_Return_some (Tuple_ ?_))
    refine Calls.spliced_cons (wpAny_Name (wpAny_loadName_local rfl (show (defScope s_stamp).names.lookup ("time" : Str) = some .local by decide +kernel) F6.ns rfl ?_))
    refine Calls.spliced_cons (wpAny_Name (wpAny_loadName_local rfl (show (defScope s_stamp).names.lookup ("house" : Str) = some .local by decide +kernel) F6.ns rfl ?_))
    refine Calls.spliced_cons (wpAny_Name (wpAny_loadName_local rfl (show (defScope s_stamp).names.lookup ("number" : Str) = some .local by decide +kernel) F6.ns rfl ?_))
    refine Calls.spliced_nil (wpAny_newTuple ?_ (by show 3 ≤ sizeLine; decide))
    refine ⟨h6.push { cls := .type "tuple", data := .seq #[.int m tm, .int h th, .int n tn] }, _, rfl, fun b o e => Heap.get?_push_of_some _ (F6.keep b o e), ?_⟩
    exact .tuple (Heap.get?_push_size _ rfl) rfl rfl (.cons (.int ..) (.cons (.int ..) (.cons (.int ..) .nil)))
end
end Rw
namespace Rw
open PySem PySem.Spec PySem.Calls PyProof.Rows L2
/-! ### sorted(d.values(), key=stamp) -/
section
variable {prog : Program} {w : World} {A : Around} {E : Value → Shared → Prop} {s : Shared} {T : String} {r d : Addr} {n : Nat} {P : Nat → Value → Prop} {OK : Heap → Prop} {β : Type} {R : Value → β → Prop}
theorem sorted_srcK {vs : List Value} {bs : List β} {f : Addr} {Q : Value → Shared → Prop} (k : β → PyData) (K : PySem.W.KdlSrc prog w T r d n P OK) (calm : A.handled = none) (hok : OK s.heap) (hn : n ≤ sizeLine) (hv : ∀ acc, ItemsOf P acc n → acc.toList = vs)
    (each : PySem.W.EachIs R vs bs) (hal : PySem.W.AllAlike (bs.map k)) (hk : PySem.W.Sortable (bs.map k)) (hu : ∀ x, x ∈ bs → A.units + 2 + (k x).depth < cLine)
    (turn : ∀ (v : Value) (x : β), R v x → x ∈ bs → ∀ (g : Heap) (tk : Nat), (∀ b o, s.heap.get? b = some o → g.get? b = some o) →
      wpAny (model prog w) A.in1.in1 (call (.ref f) [v]) (PySem.W.KeyPure (k x) { s with heap := g, toks := tk }) (fun _ _ => False) { s with heap := g, toks := tk })
    (fin : ∀ (out : List Value) (g1 g : Heap) (tk c : Nat) (e : Addr), (∀ b o, s.heap.get? b = some o → g1.get? b = some o) → (∀ b o, g1.get? b = some o → g.get? b = some o) → g1.objs.size ≤ e → g.get? e = some (seqObj "list" (List.toArray out) c) →
      out.length = bs.length → PySem.W.EachIs R out (bs.mergeSort (PySem.W.dataLe false k)) → Q (.ref e) { s with heap := g, toks := tk }) :
    wpAny (model prog w) A (call (.builtin "sorted") [.ref r] [(Str.ofString "key", .ref f)]) Q E s := by
  refine call_function_entry_kw kind_sorted plain_sorted entry_sorted (ksk_s1 _ _) ?_
  unfold Builtin.«sorted»
  refine wpAny_bind (m := checkCount "sorted" 1 1 _) (wpAny_pure (wpAny_bind (PySem.W.kdu_collect (A := A.in1) K calm hok hn fun h' tk acc kept items => ?_)))
  have e := hv acc items
  have few : vs.length ≤ sizeLine := by rw [← e, Array.length_toList, items.1]; exact hn
  rw [e]
  refine wpAny_bind (wpAny_newList ?_ few)
  have atL : (h'.push (seqObj "list" vs.toArray 0)).get? h'.objs.size = some (seqObj "list" vs.toArray 0) := Heap.get?_push_size _ rfl
  have up : ∀ {g : Heap}, PySem.W.KeepsBut h'.objs.size (h'.push (seqObj "list" vs.toArray 0)) g → ∀ b o, h'.get? b = some o → g.get? b = some o := fun kp b o q => kp b o (Nat.ne_of_lt (Heap.lt_size q)) (Heap.get?_push_of_some _ q)
  show wpAny _ _ _ _ _ { s with heap := h'.push (seqObj "list" vs.toArray 0), toks := tk }
  refine wpAny_bind (wpAny_holding (PySem.W.list_sort_key_data (s := { s with heap := h'.push (seqObj "list" vs.toArray 0), toks := tk }) (b := false) k atL each hal hk (by rw [← each.length]; exact few) (fun x hx => ?_) (ksk_l1 _ _) (ksk_t1 _ _)
    (fun v x rv hx g tk2 kp => turn v x rv hx g tk2 fun b o q => up kp b o (kept b o q)) fun out c g tk2 kp hD len eo => ?_))
  · have := hu x hx
    show A.units + 1 + 1 + _ < _
    omega
  · exact wpAny_pure ⟨_, rfl, fin out h' g tk2 c h'.objs.size kept (fun b o q => up kp b o q) (Nat.le_refl _) hD len eo⟩
end
/-- d.values() -/
def vwO (p d : Addr) : HO := .ext fun h => h.get? p = some { cls := .type "dict_values", data := .fields #[.ref d] }
theorem vwO_ok {P : Program} {w : World} {H : Hp} {h : Heap} {p d : Addr} (e : h.get? p = some { cls := .type "dict_values", data := .fields #[.ref d] }) : ObjOk P w H h p (vwO p d) :=
  ⟨e, ⟨_, e⟩, fun h1 h2 q keep => keep _ q⟩
def rValues : V → List V → Hp → VK → Prop := fun x xs H Q => ∃ d kvs, x = .ref d ∧ xs = [] ∧ H d = some (.dT kvs) ∧ ∀ p, H p = none → Q (.ref p) (upd H p (vwO p d))
section
variable {X : Cx}
theorem mt_values : MtR X "dict.values" rValues := by
  intro pins s σ H x xs v us Q I rx rs h
  obtain ⟨d, kvs, rfl, rfl, hd, q⟩ := h
  cases rx
  cases rs
  obtain ⟨z, sm, ks, pr, o, es, ep, ho, hx, hdt, he, hn⟩ := (show ObjOk X.prog X.w H s.heap d (.dT kvs) from I.hok d _ hd)
  refine call_meetsIn PySem.F.slot_dict_values ⟨o, ho, hx.1⟩ PySem.F.entry_dict_values (PySem.F.args_dict_values_1 _) (PySem.meets_dict_values_raw d sm) ⟨⟨es, ep, o, ho, hx, hdt⟩, ?_⟩
  exact ⟨.ref s.heap.objs.size, _, I.laid (t' := s.toks) (fun b o q => Heap.get?_push_of_some _ q) (Nat.le_refl _) (vwO_ok (Heap.get?_push_size _ rfl)), rfl, q _ (I.hok.fresh (Nat.le_refl _))⟩
/-- stamped things: tuples of three ints and one thing more -/
structure St3 {α : Type} (H : Hp) (g : α → Int × Int × Int) (R : V → α → Prop) : Prop where
  tup : ∀ v x, R v x → ∃ t u, v = .ref t ∧ H t = some (.tup [.int (g x).1, .int (g x).2.1, .int (g x).2.2, u])
/-- (house, number, time) by (time, house, number) -/
def le3 (a b : Int × Int × Int) : Bool := decide (a.2.2 < b.2.2 ∨ (a.2.2 = b.2.2 ∧ (a.1 < b.1 ∨ (a.1 = b.1 ∧ a.2.1 ≤ b.2.1))))
def rSortStamp {α : Type} (g : α → Int × Int × Int) : List V → List V → Hp → VK → Prop := fun vs zs H Q => ∃ (p d : Addr) (kvs : List (List Key × V)) (R : V → α → Prop) (xs : List α) (f : Addr), vs = [.ref p] ∧ zs = [.ref f] ∧ H p = some (vwO p d) ∧ H d = some (.dT kvs) ∧
  St3 H g R ∧ Paired R (kvs.map (·.2)) xs ∧ ∀ (ys : List V) (q : Addr), Paired R ys (xs.mergeSort fun a b => le3 (g a) (g b)) → H q = none → Q (.ref q) (upd H q (.lst ys))
theorem dataLt3 (a b c a' b' c' : Int) : PySem.W.dataLt (.tuple [.int a, .int b, .int c]) (.tuple [.int a', .int b', .int c']) = decide (a < a' ∨ (a = a' ∧ (b < b' ∨ (b = b' ∧ c < c')))) := by
  rw [PySem.W.dataLt_tuple, PySem.W.dataLt_cons (by simp [PySem.W.alike]), PySem.W.dataLt_cons (by simp [PySem.W.alike]), PySem.W.dataLt_cons (by simp [PySem.W.alike]), PySem.W.dataLt_int, PySem.W.dataLt_int, PySem.W.dataLt_int]
  have e : PyProof.Rows.lexLt itemOrd (PySem.W.keyToksAll []) (PySem.W.keyToksAll []) = false := lex_irrefl _
  rw [e]
  simp only [PyData.eqv, beq_iff_eq]
  by_cases h1 : a = a' <;> by_cases h2 : b = b' <;> by_cases h3 : c = c' <;> simp [h1, h2, h3]
theorem dataLe3 {α : Type} (g : α → Int × Int × Int) : PySem.W.dataLe false (fun x : α => dSt (g x).2.2 (g x).1 (g x).2.1) = fun a b => le3 (g a) (g b) := by
  funext a b
  show (!PySem.W.dataLt (.tuple [.int (g b).2.2, .int (g b).1, .int (g b).2.1]) (.tuple [.int (g a).2.2, .int (g a).1, .int (g a).2.1])) = _
  rw [dataLt3]
  unfold le3
  by_cases h : (g b).2.2 < (g a).2.2 ∨ ((g b).2.2 = (g a).2.2 ∧ ((g b).1 < (g a).1 ∨ ((g b).1 = (g a).1 ∧ (g b).2.1 < (g a).2.1)))
  · rw [decide_eq_true h, decide_eq_false (by omega)]; rfl
  · rw [decide_eq_false h, decide_eq_true (by omega)]; rfl
theorem each_of {α : Type} {R : V → α → Prop} : ∀ {vs : List V} {us : List Value} {xs : List α}, Vals vs us → Paired R vs xs → PySem.W.EachIs (fun u x => ∃ v, RelV v u ∧ R v x) us xs
  | _, _, _, .nil, .nil => .nil
  | _, _, _, .cons r rs, .cons p ps => .cons ⟨_, r, p⟩ (each_of rs ps)
theorem of_each {α : Type} {R : V → α → Prop} : ∀ {us : List Value} {xs : List α}, PySem.W.EachIs (fun u x => ∃ v, RelV v u ∧ R v x) us xs → ∃ vs, Vals vs us ∧ Paired R vs xs
  | _, _, .nil => ⟨[], .nil, .nil⟩
  | _, _, .cons ⟨v, r, p⟩ t => by
    obtain ⟨vs, rs, ps⟩ := of_each t
    exact ⟨v :: vs, .cons r rs, .cons p ps⟩
theorem kt_vals {H : Hp} : ∀ {kvs : List (List Key × V)} {ks : List (List Key × Addr × Value)}, Paired (fun p q => p.1 = q.1 ∧ H q.2.1 = some (.tup (p.1.map kV)) ∧ RelV p.2 q.2.2) kvs ks → Vals (kvs.map (·.2)) (ks.map (·.2.2))
  | _, _, .nil => .nil
  | _, _, .cons r t => .cons r.2.2 (kt_vals t)
set_option maxHeartbeats 2000000 in
theorem cr_sortStamp {α : Type} {g : α → Int × Int × Int} {f : Addr} {fd : FuncData} (hr : Room 3 X.A) (F0 : Fun X.K "stamp" "stamp" s_stamp f fd) : CallRK X (.builtin "sorted") [Str.ofString "key"] (fun vs zs H Q => zs = [.ref f] ∧ rSortStamp g vs zs H Q) := by
  intro pins s σ H vs zs us ws Q I r rz h
  obtain ⟨_, p, d, kvs, R, xs, f', rfl, e1, hp, hd, S, pr, q⟩ := h
  cases e1
  rename_i e0
  cases e0
  obtain rfl := Vals.ref1 r
  obtain rfl := Vals.ref1 rz
  obtain ⟨z, sm, ks, kt, o, es, ep, ho, hx, hdt, he, hn⟩ := (show ObjOk X.prog X.w H s.heap d (.dT kvs) from I.hok d _ hd)
  have hv := (show ObjOk X.prog X.w H s.heap p (vwO p d) from I.hok p _ hp).1
  have l1 : es.size = ks.length := size_of_entries he
  have l2 : kvs.length = ks.length := Paired.length kt
  have l3 : kvs.length = xs.length := by have := pr_len pr; rw [List.length_map] at this; exact this
  have each := each_of (kt_vals kt) pr
  refine sorted_srcK (vs := ks.map (·.2.2)) (bs := xs) (fun x => dSt (g x).2.2 (g x).1 (g x).2.1) (PySem.KdlSrc.rawValues (prog := X.prog) (w := X.w) (r := p) (d := d) (es := es) (ep := ep)) hr.hd ⟨⟨_, hv, rfl, rfl⟩, o, ho, hx, hdt⟩ (by omega) (fun acc it => ?_) each
    (PySem.W.AllAlike.of fun _ _ => by simp [dSt, PySem.W.alike, PySem.W.alikeAll]) (PySem.W.Sortable.tuples fun _ => ⟨_, _, rfl⟩) (fun x _ => ?_) ?turn ?fin
  · apply List.ext_getElem?
    intro j
    rw [List.getElem?_map]
    have hl : acc.toList.length = ks.length := by rw [Array.length_toList, it.1]; exact l1
    cases hj : acc.toList[j]? with
    | none => rw [List.getElem?_eq_none (by have := List.getElem?_eq_none_iff.mp hj; omega)]; rfl
    | some v =>
      obtain ⟨hi, hval⟩ := it.2 j v (by rw [← Array.getElem?_toList]; exact hj)
      have qe := entry_at he j
      rw [Array.getElem?_eq_getElem hi] at qe
      cases hb : ks[j]? with
      | none => rw [hb] at qe; exact nomatch (show some es[j] = none from qe)
      | some b =>
        rw [hb] at qe
        have e2 : es[j] = entryOfKey (tupleKind (mixKind X.prog X.w)) b := Option.some.inj qe
        rw [hval, e2]
        rfl
  · have hd : (dSt (g x).2.2 (g x).1 (g x).2.1).depth = 1 := by simp [dSt, PyData.depth, PyData.depthAll]
    have := hr.un
    omega
  case turn =>
    rintro v x ⟨v', rv, rx⟩ _ g' tk kp
    obtain ⟨t, u, rfl, ht⟩ := S.tup v' x rx
    cases rv
    have I2 : Inv X pins σ H { s with heap := g', toks := tk } := I.kept (t' := tk) kp
    obtain ⟨its, rv2, tp, _⟩ := I2.tuple (SqT.of ht)
    obtain ⟨t1, t2, t3, u4, rfl⟩ : ∃ t1 t2 t3 u4, its = [.int (g x).1 t1, .int (g x).2.1 t2, .int (g x).2.2 t3, u4] := by
      cases rv2 with
      | cons a1 b1 => cases b1 with
        | cons a2 b2 => cases b2 with
          | cons a3 b3 => cases b3 with
            | cons a4 b4 =>
              cases b4
              obtain ⟨t1, rfl⟩ := a1
              obtain ⟨t2, rfl⟩ := a2
              obtain ⟨t3, rfl⟩ := a3
              exact ⟨t1, t2, t3, _, rfl⟩
    have dep : X.A.in1.in1.depth < recursionLimit := hr.depth
    have hd' : X.A.in1.in1.handled = none := hr.hd
    exact stamp_run (P := X.prog) (w := X.w) (A := X.A.in1.in1) (s := { s with heap := g', toks := tk }) F0 I2.kIn I2.nolimit dep hd' tp
  case fin =>
    intro out g1 g2 tk c e k1 k2 le at' len eo
    rw [dataLe3 g] at eo
    obtain ⟨ys, ry, py⟩ := of_each eo
    have I1 : Inv X pins σ H { s with heap := g1 } := I.kept (t' := s.toks) k1
    have few : ys.length ≤ sizeLine := by rw [pr_len py, (List.mergeSort_perm xs _).length_eq]; omega
    exact ⟨.ref e, upd H e (.lst ys), I1.laid (t' := tk) k2 le ⟨few, out, c, ry, at'⟩, rfl, q ys e py (I1.hok.fresh le)⟩
end
end Rw
namespace Rw
open PySem L2
/-! ### deeds -/
inductive What where
  | chg (add : Bool) (k w : Int)
  | back (h n : Int)
  | shut (rows : List Row)
  | bye
deriving DecidableEq
structure Deed where
  h : Int
  n : Int
  t : Int
  w : What
deriving DecidableEq
/-- tuples of data -/
def kT {α : Type} (k : Kd α) : Kd (List α) := ⟨fun F v xs => ∃ a vs, v = .ref a ∧ F a = some (.tup vs) ∧ Paired (k.is F) vs xs, fun s ⟨a, vs, e, h, p⟩ => ⟨a, vs, e, s _ _ h, pr_mono (fun _ _ r => k.mono s r) p⟩⟩
def wStr (b : Bool) : Str := if b then "add" else "put"
def IsWhat (F : Hp) (v : V) : What → Prop
  | .chg b k x => ∃ a, v = .ref a ∧ F a = some (.tup [.str (wStr b), .int k, .int x])
  | .back h n => ∃ a, v = .ref a ∧ F a = some (.tup [.str "back", .int h, .int n])
  | .shut rows => ∃ a u, v = .ref a ∧ F a = some (.tup [.str "seal", u]) ∧ (kT kRow).is F u rows
  | .bye => ∃ a, v = .ref a ∧ F a = some (.tup [.str "bye"])
theorem IsWhat.mono {F F' : Hp} {v : V} : ∀ {w : What}, Same F F' → IsWhat F v w → IsWhat F' v w
  | .chg _ _ _, s, ⟨a, e, h⟩ => ⟨a, e, s _ _ h⟩
  | .back _ _, s, ⟨a, e, h⟩ => ⟨a, e, s _ _ h⟩
  | .shut _, s, ⟨a, u, e, h, k⟩ => ⟨a, u, e, s _ _ h, (kT kRow).mono s k⟩
  | .bye, s, ⟨a, e, h⟩ => ⟨a, e, s _ _ h⟩
def kWhat : Kd What := ⟨fun F v w => IsWhat F v w, fun s h => h.mono s⟩
def kDeed : Kd Deed := ⟨fun F v d => ∃ a u, v = .ref a ∧ F a = some (.tup [.int d.h, .int d.n, .int d.t, u]) ∧ kWhat.is F u d.w, fun s ⟨a, u, e, h, k⟩ => ⟨a, u, e, s _ _ h, kWhat.mono s k⟩⟩
def WhatOk : What → Prop
  | .chg _ k x => 0 ≤ k ∧ k ≤ 5 ∧ -LIM ≤ x ∧ x ≤ LIM
  | .back h n => 0 ≤ h ∧ h ≤ 7 ∧ 1 ≤ n ∧ n ≤ LIM
  | .shut rows => RowsOk rows ∧ Canon rows
  | .bye => True
structure DeedOk (d : Deed) : Prop where
  h0 : 0 ≤ d.h
  h7 : d.h ≤ 7
  n1 : 1 ≤ d.n
  nt : d.n ≤ d.t
  tl : d.t ≤ LIM
  w : WhatOk d.w
def name (d : Deed) : Pt := (d.h, d.n)
/-- what each tuple begins with, and how long it is -/
def word : What → Str
  | .chg b _ _ => wStr b
  | .back _ _ => "back"
  | .shut _ => "seal"
  | .bye => "bye"
theorem what_tup {F : Hp} {v : V} {w : What} (h : kWhat.is F v w) : ∃ a rest, v = .ref a ∧ F a = some (.tup (.str (word w) :: rest)) := by
  cases w with
  | chg b k x => obtain ⟨a, e, h⟩ := h; exact ⟨a, _, e, h⟩
  | back k n => obtain ⟨a, e, h⟩ := h; exact ⟨a, _, e, h⟩
  | shut rows => obtain ⟨a, u, e, h, _⟩ := h; exact ⟨a, _, e, h⟩
  | bye => obtain ⟨a, e, h⟩ := h; exact ⟨a, _, e, h⟩
def spParts (xs : List V) : Sp := fun vs H Q _ => ∃ a : Addr, vs = [.ref a] ∧ H a = some (.lst xs) ∧ Q (.bl true) H
def spIsChange : Sp := fun vs H Q _ => ∃ (a : Addr) (k x : Int), vs = [.ref a] ∧ H a = some (.lst [.int k, .int x]) ∧ 0 ≤ k ∧ k ≤ 5 ∧ -LIM ≤ x ∧ x ≤ LIM ∧ Q (.bl true) H
def spIsName : Sp := fun vs H Q _ => ∃ (a : Addr) (h n : Int), vs = [.ref a] ∧ H a = some (.lst [.int h, .int n]) ∧ 0 ≤ h ∧ h ≤ 7 ∧ 1 ≤ n ∧ n ≤ LIM ∧ Q (.bl true) H
def spIsSealed : Sp := fun vs H Q _ => ∃ (F : Hp) (a : Addr) (u : V) (rows : List Row), vs = [.ref a] ∧ H a = some (.lst [u]) ∧ Same F H ∧ (kT kRow).is F u rows ∧ RowsOk rows ∧ Canon rows ∧ RetV F H (.bl true) Q
def spIsWhat : Sp := fun vs H Q _ => ∃ (F : Hp) (v : V) (w : What), vs = [v] ∧ Same F H ∧ kWhat.is F v w ∧ WhatOk w ∧ RetV F H (.bl true) Q
def spIsDeed : Sp := fun vs H Q _ => ∃ (F : Hp) (v : V) (d : Deed), vs = [v] ∧ Same F H ∧ kDeed.is F v d ∧ DeedOk d ∧ RetV F H (.bl true) Q
def spCheckDeeds : Sp := fun vs H Q _ => ∃ (F : Hp) (v : V) (ds : List Deed), vs = [v] ∧ Same F H ∧ (kL kDeed).is F v ds ∧ (∀ d ∈ ds, DeedOk d) ∧ RetV F H .non Q
structure TxD (mg : Str → Option Value) : Prop where
  a : TxA mg
  key : ∃ t, mg "LAST_KEY" = some (.int 5 t)
  list : mg "list" = none
section
variable {P : Program} {w : World} {K : PySem.W.Frag} {mg : Str → Option Value} {base : Heap}
theorem ok_is_change {f : Addr} {fd : FuncData} (F0 : Fun K "is_change" "is_change" s_is_change f fd) (T : TxD mg) (CN : Cal P w K mg base 1 "is_number" ["value", "low", "high"] spIsNumber) : FnOk P w K mg base CX0 2 f fd ["parts"] spIsChange := by
  obtain ⟨f1, fd1, G1, g1, kp1, b1⟩ := CN
  obtain ⟨tk, hk⟩ := T.key
  obtain ⟨tl, hl⟩ := T.a.lim
  refine F0.ok sc_is_change (fun vs H Q E h => ?_) (fun cdv A outer s H vs Q E hr h => ?_)
  · obtain ⟨a, k, x, rfl, _⟩ := h
    rfl
  · obtain ⟨a, k, x, rfl, ha, k0, k5, x0, x1, q⟩ := h
    refine ⟨_, pss_one (ps_ret (pe_and (pe_cmpR op_eq (pe_callB call_len (by rfl) T.a.len PySem.boot_len (pa_cons (pv 0) pa_nil)) pe_int (nomark _))
      (pe_and (pe_call G1 hr (by rfl) g1 kp1 b1 .nil pass0 (pa_cons (pe_ix ix_list (pv 0) pe_int (fun _ _ => rfl)) (pa_cons pe_int (pa_cons (pe_glob (v := .int 5) (by rfl) hk ⟨_, rfl⟩) pa_nil))))
      (pe_one (pe_call G1 hr (by rfl) g1 kp1 b1 .nil pass0 (pa_cons (pe_ix ix_list (pv 0) pe_int (fun _ _ => rfl)) (pa_cons (pe_un un_neg (pe_glob (v := .int LIM) (by rfl) hl ⟨_, rfl⟩)) (pa_cons (pe_glob (v := .int LIM) (by rfl) hl ⟨_, rfl⟩) pa_nil)))))))), ?_⟩
    refine ⟨_, rfl, _, 2, rfl, .inl ⟨_, SqL.of ha, rfl⟩, rfl, true, rfl, iteT ?_⟩
    refine ⟨_, rfl, a, _, 0, _, rfl, rfl, SqL.of ha, rfl, k, 0, 5, rfl, _, rfl, ?_⟩
    rw [decide_eq_true ⟨k0, k5⟩]
    refine iteT ⟨_, rfl, a, _, 1, _, rfl, rfl, SqL.of ha, rfl, LIM, rfl, x, -LIM, LIM, rfl, ?_⟩
    rw [decide_eq_true ⟨x0, x1⟩]
    exact q
theorem ok_is_name {f : Addr} {fd : FuncData} (F0 : Fun K "is_name" "is_name" s_is_name f fd) (T : TxD mg) (CN : Cal P w K mg base 1 "is_number" ["value", "low", "high"] spIsNumber) (CH : Cal P w K mg base 2 "is_house" ["value"] spIsHouse) : FnOk P w K mg base CX0 3 f fd ["parts"] spIsName := by
  obtain ⟨f1, fd1, G1, g1, kp1, b1⟩ := CN
  obtain ⟨f2, fd2, G2, g2, kp2, b2⟩ := CH
  obtain ⟨tl, hl⟩ := T.a.lim
  refine F0.ok sc_is_name (fun vs H Q E h => ?_) (fun cdv A outer s H vs Q E hr h => ?_)
  · obtain ⟨a, k, x, rfl, _⟩ := h
    rfl
  · obtain ⟨a, k, x, rfl, ha, k0, k5, x0, x1, q⟩ := h
    have hr1 : Room 1 _ := hr.mono (by decide)
    refine ⟨_, pss_one (ps_ret (pe_and (pe_cmpR op_eq (pe_callB call_len (by rfl) T.a.len PySem.boot_len (pa_cons (pv 0) pa_nil)) pe_int (nomark _))
      (pe_and (pe_call G2 hr (by rfl) g2 kp2 b2 .nil pass0 (pa_cons (pe_ix ix_list (pv 0) pe_int (fun _ _ => rfl)) pa_nil))
      (pe_one (pe_call G1 hr1 (by rfl) g1 kp1 b1 .nil pass0 (pa_cons (pe_ix ix_list (pv 0) pe_int (fun _ _ => rfl)) (pa_cons pe_int (pa_cons (pe_glob (v := .int LIM) (by rfl) hl ⟨_, rfl⟩) pa_nil)))))))), ?_⟩
    refine ⟨_, rfl, _, 2, rfl, .inl ⟨_, SqL.of ha, rfl⟩, rfl, true, rfl, iteT ?_⟩
    refine ⟨_, rfl, a, _, 0, _, rfl, rfl, SqL.of ha, rfl, k, rfl, _, rfl, ?_⟩
    rw [decide_eq_true ⟨k0, k5⟩]
    refine iteT ⟨_, rfl, a, _, 1, _, rfl, rfl, SqL.of ha, rfl, x, 1, LIM, rfl, ?_⟩
    rw [decide_eq_true ⟨x0, x1⟩]
    exact q
theorem ok_is_sealed {f : Addr} {fd : FuncData} (F0 : Fun K "is_sealed" "is_sealed" s_is_sealed f fd) (T : TxD mg) (CW : Cal P w K mg base 4 "first_wrong" ["rows"] spFirstWrong) (CF : Cal P w K mg base 3 "fewest" ["rows"] spFewest) : FnOk P w K mg base CX0 5 f fd ["parts"] spIsSealed := by
  obtain ⟨f1, fd1, G1, g1, kp1, b1⟩ := CW
  obtain ⟨f2, fd2, G2, g2, kp2, b2⟩ := CF
  refine F0.ok sc_is_sealed (fun vs H Q E h => ?_) (fun cdv A outer s H vs Q E hr h => ?_)
  · obtain ⟨F, a, u, rows, rfl, _⟩ := h
    rfl
  · obtain ⟨F, a, u, rows, rfl, ha, fh, ⟨b, xs, rfl, hb, pb⟩, hok, can, q⟩ := h
    have hr3 : Room 3 _ := hr.mono (by decide)
    have hu := hr.units
    refine ⟨_, pss_cons (ps_if (PW.pt (pw_or (pt_cmpR op_ne (pe_callB call_len (by rfl) T.a.len PySem.boot_len (pa_cons (pv 0) pa_nil)) pe_int (nomark _))
        (pw_or1 (pt_not (pt_val (pe_callB call_isi (by rfl) T.a.isinst (by decide +kernel) (pa_cons (pe_ix ix_list (pv 0) pe_int (fun _ _ => rfl)) (pa_cons (pe_bty (by rfl) T.a.tuple bt_tuple) pa_nil)))))))) (pss_one (ps_ret pe_bl)) pss_nil)
      (pss_cons (ps_set (i := 1) sc_is_sealed.nd rfl (.inl rfl) (pe_callTy call_list_of (by rfl) T.list (by decide +kernel) (pa_cons (pe_ix ix_list (pv 0) pe_int (fun _ _ => rfl)) pa_nil)))
      (pss_one (ps_ret (pe_and (pe_cmp (pc_isN (pe_call G1 hr (by rfl) g1 kp1 b1 .nil pass0 (pa_cons (pv 1) pa_nil)))) (pe_one (pe_cmpR (op_eqD hu) (pe_call G2 hr3 (by rfl) g2 kp2 b2 .nil pass0 (pa_cons (pv 1) pa_nil)) (pv 1) (nomark _))))))), ?_⟩
    have hbH := fh _ _ hb
    refine ⟨_, rfl, _, 1, rfl, .inl ⟨_, SqL.of ha, rfl⟩, rfl, false, by decide, iteF ?_⟩
    refine ⟨_, rfl, a, _, 0, _, rfl, rfl, SqL.of ha, rfl, _, .ty "tuple", _, _, _, rfl, .ty _, tyx_tup hbH, kit_tt, true, rfl, iteF ?_⟩
    refine ⟨_, rfl, a, _, 0, _, rfl, rfl, SqL.of ha, rfl, b, xs, rfl, .inr (SqT.of hbH), fun l nl => ?_⟩
    have X1 := (Ext.refl (M := M0) fh).lay (o := .lst xs) nl
    have kl : (kL kRow).is (upd F l (.lst xs)) (.ref l) rows := kL_new (fh.free nl) pb
    refine ⟨_, rfl, .ref l, rows, rfl, (kL kRow).mono X1.fh kl, hok, fun H1 s1 => ⟨_, rfl, iteT ?_⟩⟩
    have X2 := X1.trans (ext_of_same X1.fh s1)
    refine ⟨_, rfl, _, .ref l, rows, rfl, X2.fh, kl, rows_valid hok.2, by have := hok.1; omega, fun F2 H2 c ys out X3 nc fc hc pc fw => ?_⟩
    have X4 := X3.frz nc fc hc
    have eo : out = rows := Canon.uniq fw.can can fw.mem
    refine ⟨_, rfl, dL dRow out, dL dRow rows, (enc_L enc_row).dp X4.fh (kL_new fc pc), (enc_L enc_row).dp X4.fh ((kL kRow).mono X4.ff kl), shaped_rows _, shaped_rows _, ?_⟩
    rw [eqv_rows, decide_eq_true eo]
    exact q _ _ (X2.trans X4)
theorem ok_is_what {f : Addr} {fd : FuncData} (F0 : Fun K "is_what" "is_what" s_is_what f fd) (T : TxD mg) (CC : Cal P w K mg base 2 "is_change" ["parts"] spIsChange) (CN : Cal P w K mg base 3 "is_name" ["parts"] spIsName) (CS : Cal P w K mg base 5 "is_sealed" ["parts"] spIsSealed) : FnOk P w K mg base CX0 6 f fd ["what"] spIsWhat := by
  obtain ⟨f1, fd1, G1, g1, kp1, b1⟩ := CC
  obtain ⟨f2, fd2, G2, g2, kp2, b2⟩ := CN
  obtain ⟨f3, fd3, G3, g3, kp3, b3⟩ := CS
  refine F0.ok sc_is_what (fun vs H Q E h => ?_) (fun cdv A outer s H vs Q E hr h => ?_)
  · obtain ⟨F, v, w', rfl, _⟩ := h
    rfl
  · obtain ⟨F, v, wt, rfl, fh, hv, ok, q⟩ := h
    have hr2 : Room 2 _ := hr.mono (by decide)
    have hr3 : Room 3 _ := hr.mono (by decide)
    refine ⟨_, pss_cons (ps_if (PW.pt (pw_or (pt_not (pt_val (pe_callB call_isi (by rfl) T.a.isinst (by decide +kernel) (pa_cons (pv 0) (pa_cons (pe_bty (by rfl) T.a.tuple bt_tuple) pa_nil)))))
        (pw_or1 (pt_cmpR op_eq (pe_callB call_len (by rfl) T.a.len PySem.boot_len (pa_cons (pv 0) pa_nil)) pe_int (nomark _))))) (pss_one (ps_ret pe_bl)) pss_nil)
      (pss_cons (ps_asg (pv 0) (pg_star1 (by rfl) (pgs_cons (pg_name (i := 1) sc_is_what.nd rfl (.inl rfl)) (pgs_cons (pg_name (i := 2) sc_is_what.nd rfl (.inl rfl)) pgs_nil))))
      (pss_cons (ps_if (PW.pt (pw_or (pt_cmpR op_eq (pv 1) pe_str (nomark _)) (pw_or1 (pt_cmpR op_eq (pv 1) pe_str (nomark _))))) (pss_one (ps_ret (pe_call G1 hr2 (by rfl) g1 kp1 b1 .nil pass0 (pa_cons (pv 2) pa_nil)))) pss_nil)
      (pss_cons (ps_if (pt_cmpR op_eq (pv 1) pe_str (nomark _)) (pss_one (ps_ret (pe_call G2 hr3 (by rfl) g2 kp2 b2 .nil pass0 (pa_cons (pv 2) pa_nil)))) pss_nil)
      (pss_cons (ps_if (pt_cmpR op_eq (pv 1) pe_str (nomark _)) (pss_one (ps_ret (pe_call G3 hr (by rfl) g3 kp3 b3 .nil pass0 (pa_cons (pv 2) pa_nil)))) pss_nil)
      (pss_one (ps_ret (pe_and (pe_cmpR op_eq (pv 1) pe_str (nomark _)) (pe_one (pe_cmpR op_eq (pe_callB call_len (by rfl) T.a.len PySem.boot_len (pa_cons (pv 2) pa_nil)) pe_int (nomark _)))))))))), ?_⟩
    have head : ∀ {a : Addr} {x : V} {xs : List V}, F a = some (.tup (x :: xs)) → v = .ref a → (∀ p, H p = none → upd H p (.lst xs) p = some (.lst xs) → True) := fun _ _ _ _ _ => trivial
    cases wt with
    | chg b k x =>
      obtain ⟨a, rfl, ha⟩ := hv
      have hH := fh _ _ ha
      refine ⟨_, rfl, _, .ty "tuple", _, _, _, rfl, .ty _, tyx_tup hH, kit_tt, true, rfl, iteF ?_⟩
      refine ⟨_, rfl, _, 3, rfl, .inr ⟨_, SqT.of hH, rfl⟩, rfl, false, by decide, iteF ?_⟩
      refine ⟨_, rfl, a, _, _, rfl, SqT.of hH, fun p np => ⟨_, _, rfl, _, _, rfl, rfl, ?_⟩⟩
      obtain ⟨k0, k5, x0, x1⟩ := ok
      have fin : spIsChange [.ref p] (upd H p (.lst [.int k, .int x])) Q E0 := ⟨p, k, x, rfl, upd_same, k0, k5, x0, x1, q _ _ ((Ext.refl fh).tmp np)⟩
      cases b with
      | false => exact ⟨_, rfl, rfl, true, by decide, iteT ⟨_, rfl, fin⟩⟩
      | true => exact ⟨_, rfl, rfl, false, by decide, iteF ⟨_, rfl, rfl, true, by decide, iteT ⟨_, rfl, fin⟩⟩⟩
    | back k n =>
      obtain ⟨a, rfl, ha⟩ := hv
      have hH := fh _ _ ha
      refine ⟨_, rfl, _, .ty "tuple", _, _, _, rfl, .ty _, tyx_tup hH, kit_tt, true, rfl, iteF ?_⟩
      refine ⟨_, rfl, _, 3, rfl, .inr ⟨_, SqT.of hH, rfl⟩, rfl, false, by decide, iteF ?_⟩
      refine ⟨_, rfl, a, _, _, rfl, SqT.of hH, fun p np => ⟨_, _, rfl, _, _, rfl, rfl, ?_⟩⟩
      obtain ⟨k0, k5, x0, x1⟩ := ok
      refine ⟨_, rfl, rfl, false, by decide, iteF ⟨_, rfl, rfl, false, by decide, iteF ⟨_, rfl, rfl, true, by decide, iteT ⟨_, rfl, ?_⟩⟩⟩⟩
      exact ⟨p, k, n, rfl, upd_same, k0, k5, x0, x1, q _ _ ((Ext.refl fh).tmp np)⟩
    | shut rows =>
      obtain ⟨a, u, rfl, ha, hu⟩ := hv
      have hH := fh _ _ ha
      refine ⟨_, rfl, _, .ty "tuple", _, _, _, rfl, .ty _, tyx_tup hH, kit_tt, true, rfl, iteF ?_⟩
      refine ⟨_, rfl, _, 2, rfl, .inr ⟨_, SqT.of hH, rfl⟩, rfl, false, by decide, iteF ?_⟩
      refine ⟨_, rfl, a, _, _, rfl, SqT.of hH, fun p np => ⟨_, _, rfl, _, _, rfl, rfl, ?_⟩⟩
      have X1 := (Ext.refl (M := M0) fh).tmp (o := .lst [u]) np
      refine ⟨_, rfl, rfl, false, by decide, iteF ⟨_, rfl, rfl, false, by decide, iteF ⟨_, rfl, rfl, false, by decide, iteF ⟨_, rfl, rfl, true, by decide, iteT ⟨_, rfl, ?_⟩⟩⟩⟩⟩
      exact ⟨F, p, u, rows, rfl, upd_same, X1.fh, hu, ok.1, ok.2, fun F' H' X2 => q _ _ (X1.trans X2)⟩
    | bye =>
      obtain ⟨a, rfl, ha⟩ := hv
      have hH := fh _ _ ha
      refine ⟨_, rfl, _, .ty "tuple", _, _, _, rfl, .ty _, tyx_tup hH, kit_tt, true, rfl, iteF ?_⟩
      refine ⟨_, rfl, _, 1, rfl, .inr ⟨_, SqT.of hH, rfl⟩, rfl, false, by decide, iteF ?_⟩
      refine ⟨_, rfl, a, _, _, rfl, SqT.of hH, fun p np => ⟨_, _, rfl, _, _, rfl, rfl, ?_⟩⟩
      have X1 := (Ext.refl (M := M0) fh).tmp (o := .lst []) np
      refine ⟨_, rfl, rfl, false, by decide, iteF ⟨_, rfl, rfl, false, by decide, iteF ⟨_, rfl, rfl, false, by decide, iteF ⟨_, rfl, rfl, false, by decide, iteF ?_⟩⟩⟩⟩
      refine ⟨_, rfl, rfl, true, by decide, iteT ?_⟩
      refine ⟨_, rfl, _, 0, rfl, .inl ⟨_, SqL.of upd_same, rfl⟩, rfl, ?_⟩
      exact q _ _ X1
end
end Rw
namespace Rw
open PySem L2
/-! ### deeds checked, and by their stamps -/
def sLt (a b : Deed) : Prop := a.t < b.t ∨ (a.t = b.t ∧ (a.h < b.h ∨ (a.h = b.h ∧ a.n < b.n)))
structure LineOf (ds line : List Deed) : Prop where
  ord : line.Pairwise sLt
  mem : ∀ d, d ∈ line ↔ d ∈ ds
def Uniq (ds : List Deed) : Prop := ∀ d ∈ ds, ∀ e ∈ ds, name d = name e → d = e
def spNameOf : Sp := fun vs H Q _ => ∃ (F : Hp) (v : V) (d : Deed), vs = [v] ∧ Same F H ∧ kDeed.is F v d ∧ ∀ p, H p = none → Q (.ref p) (upd H p (.tup [.int d.h, .int d.n]))
def spWordOf : Sp := fun vs H Q _ => ∃ (F : Hp) (v : V) (d : Deed), vs = [v] ∧ Same F H ∧ kDeed.is F v d ∧ Q (.str (word d.w)) H
def spInOrder : Sp := fun vs H Q _ => ∃ (F : Hp) (v : V) (ds : List Deed), vs = [v] ∧ Same F H ∧ (kL kDeed).is F v ds ∧ Uniq ds ∧ ds.length ≤ 100000 ∧ RetL M0 F H kDeed (LineOf ds) Q
def spOrdered : Sp := fun vs H Q _ => ∃ (F : Hp) (v : V) (ds : List Deed), vs = [v] ∧ Same F H ∧ (kL kDeed).is F v ds ∧ (∀ d ∈ ds, DeedOk d) ∧ Uniq ds ∧ ds.length ≤ 100000 ∧ RetL M0 F H kDeed (LineOf ds) Q
/-! a dict from keys to data -/
def DVal {α : Type} (R : V → α → Prop) (key : α → List Key) (kvs : List (List Key × V)) (es : List α) : Prop := Paired (fun kv x => kv.1 = key x ∧ R kv.2 x) kvs es
theorem DVal.mono {α : Type} {R S : V → α → Prop} {key : α → List Key} (h : ∀ v x, R v x → S v x) : ∀ {kvs : List (List Key × V)} {es : List α}, DVal R key kvs es → DVal S key kvs es
  | _, _, .nil => .nil
  | _, _, .cons r t => .cons ⟨r.1, h _ _ r.2⟩ (DVal.mono h t)
theorem DVal.len {α : Type} {R : V → α → Prop} {key : α → List Key} : ∀ {kvs : List (List Key × V)} {es : List α}, DVal R key kvs es → kvs.length = es.length
  | _, _, .nil => rfl
  | _, _, .cons _ t => by rw [List.length_cons, List.length_cons, DVal.len t]
theorem DVal.vals {α : Type} {R : V → α → Prop} {key : α → List Key} : ∀ {kvs : List (List Key × V)} {es : List α}, DVal R key kvs es → Paired R (kvs.map (·.2)) es
  | _, _, .nil => .nil
  | _, _, .cons r t => .cons r.2 (DVal.vals t)
theorem DVal.any {α : Type} {R : V → α → Prop} {key : α → List Key} {k : List Key} : ∀ {kvs : List (List Key × V)} {es : List α}, DVal R key kvs es → ((kvs.any fun kv => decide (kv.1 = k)) = true ↔ k ∈ es.map key)
  | _, _, .nil => by simp
  | _, _, .cons r t => by
    rw [List.any_cons, List.map_cons, List.mem_cons, Bool.or_eq_true, DVal.any t, decide_eq_true_eq, r.1]
    exact or_congr eq_comm Iff.rfl
theorem DVal.snoc {α : Type} {R : V → α → Prop} {key : α → List Key} {v : V} {x : α} (r : R v x) : ∀ {kvs : List (List Key × V)} {es : List α}, DVal R key kvs es → DVal R key (kvs ++ [(key x, v)]) (es ++ [x])
  | _, _, .nil => .cons ⟨rfl, r⟩ .nil
  | _, _, .cons r' t => .cons r' (DVal.snoc r t)
theorem DVal.over {α : Type} {R : V → α → Prop} {key : α → List Key} {v : V} {x : α} (r : R v x) : ∀ {kvs : List (List Key × V)} {es : List α}, DVal R key kvs es → (∀ y ∈ es, key y = key x → y = x) → DVal R key (kvs.map fun kv => if kv.1 = key x then (kv.1, v) else kv) es
  | _, _, .nil, _ => .nil
  | _, _, .cons (a := kv) (b := y) r' t, u => by
    refine .cons ?_ (DVal.over r t fun z hz => u z (List.mem_cons_of_mem _ hz))
    dsimp only
    by_cases e : kv.1 = key x
    · rw [if_pos e]
      have e2 : y = x := u y List.mem_cons_self (by rw [← r'.1]; exact e)
      exact ⟨r'.1, by rw [e2]; exact r⟩
    · rw [if_neg e]; exact r'
theorem DVal.put {α : Type} {R : V → α → Prop} {key : α → List Key} {v : V} {x : α} {kvs : List (List Key × V)} {es : List α} (h : DVal R key kvs es) (nd : (es.map key).Nodup) (r : R v x) (u : ∀ y ∈ es, key y = key x → y = x) :
    ∃ es', DVal R key (putK kvs (key x) v) es' ∧ (es'.map key).Nodup ∧ (∀ y, y ∈ es' ↔ y ∈ es ∨ y = x) ∧ es'.length ≤ es.length + 1 := by
  unfold putK
  by_cases m : key x ∈ es.map key
  · rw [if_pos (h.any.mpr m)]
    obtain ⟨y, hy, e⟩ := List.mem_map.mp m
    have : x ∈ es := by rw [← u y hy e]; exact hy
    exact ⟨es, h.over r u, nd, fun z => ⟨.inl, fun z' => z'.elim id fun e => e ▸ this⟩, Nat.le_succ _⟩
  · rw [if_neg fun z => m (h.any.mp z)]
    refine ⟨es ++ [x], h.snoc r, ?_, fun z => by simp, by simp⟩
    rw [List.map_append]
    exact List.nodup_append.mpr ⟨nd, by simp, fun a ha b hb e => by rw [List.mem_singleton.mp hb] at e; exact m (e ▸ ha)⟩
theorem kk_name {d e : Deed} (h : kk (name d) = kk (name e)) : name d = name e := kk_inj h
theorem line_sort {es ds : List Deed} (nd : (es.map fun d => kk (name d)).Nodup) (m : ∀ d, d ∈ es ↔ d ∈ ds) : LineOf ds (es.mergeSort fun a b => le3 (a.h, a.n, a.t) (b.h, b.n, b.t)) := by
  have perm := List.mergeSort_perm es fun a b => le3 (a.h, a.n, a.t) (b.h, b.n, b.t)
  refine ⟨?_, fun d => by rw [perm.mem_iff, m d]⟩
  have srt : (es.mergeSort fun a b => le3 (a.h, a.n, a.t) (b.h, b.n, b.t)).Pairwise fun a b => le3 (a.h, a.n, a.t) (b.h, b.n, b.t) = true := by
    refine List.pairwise_mergeSort (fun a b c h1 h2 => ?_) (fun a b => ?_) es
    · simp only [le3, decide_eq_true_eq] at h1 h2 ⊢
      omega
    · simp only [le3, Bool.or_eq_true, decide_eq_true_eq]
      omega
  have nd2 : ((es.mergeSort fun a b => le3 (a.h, a.n, a.t) (b.h, b.n, b.t)).map fun d => kk (name d)).Nodup := (perm.map _).nodup_iff.mpr nd
  have nd3 : (es.mergeSort fun a b => le3 (a.h, a.n, a.t) (b.h, b.n, b.t)).Pairwise fun a b => name a ≠ name b := (List.pairwise_map.mp nd2).imp fun h e => h (by rw [e])
  refine (srt.and nd3).imp fun {a b} ⟨h1, h2⟩ => ?_
  simp only [le3, decide_eq_true_eq] at h1
  have h3 : ¬ (a.h = b.h ∧ a.n = b.n) := fun q => h2 (Prod.ext q.1 q.2)
  unfold sLt
  omega
theorem LineOf.uniq {ds l1 l2 : List Deed} (h1 : LineOf ds l1) (h2 : LineOf ds l2) : l1 = l2 := by
  have go : ∀ (l1 l2 : List Deed), l1.Pairwise sLt → l2.Pairwise sLt → (∀ d, d ∈ l1 ↔ d ∈ l2) → l1 = l2 := by
    intro l1
    induction l1 with
    | nil => intro l2 _ _ m; cases l2 with
      | nil => rfl
      | cons y l2 => exact absurd ((m y).mpr List.mem_cons_self) (by simp)
    | cons x l1 ih =>
      intro l2 p1 p2 m
      cases l2 with
      | nil => exact absurd ((m x).mp List.mem_cons_self) (by simp)
      | cons y l2 =>
        obtain ⟨a1, b1⟩ := List.pairwise_cons.mp p1
        obtain ⟨a2, b2⟩ := List.pairwise_cons.mp p2
        have irr : ∀ a b : Deed, sLt a b → sLt b a → False := fun a b h1 h2 => by unfold sLt at h1 h2; omega
        have e : x = y := by
          rcases List.mem_cons.mp ((m x).mp List.mem_cons_self) with e | hx
          · exact e
          · rcases List.mem_cons.mp ((m y).mpr List.mem_cons_self) with e | hy
            · exact e.symm
            · exact (irr _ _ (a1 y hy) (a2 x hx)).elim
        subst e
        rw [ih l2 b1 b2 fun d => ?_]
        constructor
        · intro hd
          rcases List.mem_cons.mp ((m d).mp (List.mem_cons_of_mem _ hd)) with e | h
          · exact (irr _ _ (a1 d hd) (e ▸ a1 d hd)).elim
          · exact h
        · intro hd
          rcases List.mem_cons.mp ((m d).mpr (List.mem_cons_of_mem _ hd)) with e | h
          · exact (irr _ _ (a2 d hd) (e ▸ a2 d hd)).elim
          · exact h
  exact go _ _ h1.ord h2.ord fun d => (h1.mem d).trans (h2.mem d).symm
structure TxO (mg : Str → Option Value) : Prop where
  sorted : mg "sorted" = none
section
variable {P : Program} {w : World} {K : PySem.W.Frag} {mg : Str → Option Value} {base : Heap}
theorem ok_is_deed {f : Addr} {fd : FuncData} (F0 : Fun K "is_deed" "is_deed" s_is_deed f fd) (T : TxD mg) (CU : Cal P w K mg base 1 "is_number" ["value", "low", "high"] spIsNumber) (CN : Cal P w K mg base 3 "is_name" ["parts"] spIsName) (CW : Cal P w K mg base 6 "is_what" ["what"] spIsWhat) : FnOk P w K mg base CX0 7 f fd ["deed"] spIsDeed := by
  obtain ⟨f1, fd1, G1, g1, kp1, b1⟩ := CU
  obtain ⟨f2, fd2, G2, g2, kp2, b2⟩ := CN
  obtain ⟨f3, fd3, G3, g3, kp3, b3⟩ := CW
  obtain ⟨tl, hl⟩ := T.a.lim
  refine F0.ok sc_is_deed (fun vs H Q E h => ?_) (fun cdv A outer s H vs Q E hr h => ?_)
  · obtain ⟨F, v, d, rfl, _⟩ := h
    rfl
  · obtain ⟨F, v, d, rfl, fh, ⟨a, u, rfl, ha, hw⟩, ok, q⟩ := h
    have hr1 : Room 1 _ := hr.mono (by decide)
    have hr3 : Room 3 _ := hr.mono (by decide)
    have hH := fh _ _ ha
    refine ⟨_, pss_cons (ps_if (PW.pt (pw_or (pt_not (pt_val (pe_callB call_isi (by rfl) T.a.isinst (by decide +kernel) (pa_cons (pv 0) (pa_cons (pe_bty (by rfl) T.a.tuple bt_tuple) pa_nil)))))
        (pw_or1 (pt_cmpR op_ne (pe_callB call_len (by rfl) T.a.len PySem.boot_len (pa_cons (pv 0) pa_nil)) pe_int (nomark _))))) (pss_one (ps_ret pe_bl)) pss_nil)
      (pss_cons (ps_asg (pv 0) (pg_tup (by rfl) (pgs_cons (pg_name (i := 1) sc_is_deed.nd rfl (.inl rfl)) (pgs_cons (pg_name (i := 2) sc_is_deed.nd rfl (.inl rfl)) (pgs_cons (pg_name (i := 3) sc_is_deed.nd rfl (.inl rfl)) (pgs_cons (pg_name (i := 4) sc_is_deed.nd rfl (.inl rfl)) pgs_nil))))))
      (pss_one (ps_ret (pe_and (pe_call G2 hr3 (by rfl) g2 kp2 b2 .nil pass0 (pa_cons (pe_lst (pa_cons (pv 1) (pa_cons (pv 2) pa_nil))) pa_nil))
        (pe_and (pe_call G1 hr1 (by rfl) g1 kp1 b1 .nil pass0 (pa_cons (pv 3) (pa_cons (pv 2) (pa_cons (pe_glob (v := .int LIM) (by rfl) hl ⟨_, rfl⟩) pa_nil))))
          (pe_one (pe_call G3 hr (by rfl) g3 kp3 b3 .nil pass0 (pa_cons (pv 4) pa_nil)))))))), ?_⟩
    refine ⟨_, rfl, _, .ty "tuple", _, _, _, rfl, .ty _, tyx_tup hH, kit_tt, true, rfl, iteF ?_⟩
    refine ⟨_, rfl, _, 4, rfl, .inr ⟨_, SqT.of hH, rfl⟩, rfl, false, by decide, iteF ?_⟩
    refine ⟨_, rfl, _, _, rfl, SqT.of hH, rfl, _, _, rfl, _, _, rfl, _, _, rfl, _, _, rfl, rfl, ?_⟩
    refine ⟨_, rfl, _, rfl, by show 2 ≤ sizeLine; decide, fun p np => ?_⟩
    have X1 := (Ext.refl (M := M0) fh).tmp (o := .lst [.int d.h, .int d.n]) np
    refine ⟨p, d.h, d.n, rfl, upd_same, ok.h0, ok.h7, ok.n1, Int.le_trans ok.nt ok.tl, _, rfl, iteT ?_⟩
    refine ⟨_, rfl, _, rfl, d.t, d.n, LIM, rfl, _, rfl, ?_⟩
    rw [decide_eq_true ⟨ok.nt, ok.tl⟩]
    exact iteT ⟨_, rfl, F, u, d.w, rfl, X1.fh, hw, ok.w, fun F' H' X2 => q _ _ (X1.trans X2)⟩
theorem ok_name_of {f : Addr} {fd : FuncData} (F0 : Fun K "name_of" "name_of" s_name_of f fd) : FnOk P w K mg base CX0 1 f fd ["deed"] spNameOf := by
  refine F0.ok sc_name_of (fun vs H Q E h => ?_) (fun cdv A outer s H vs Q E hr h => ?_)
  · obtain ⟨F, v, d, rfl, _⟩ := h
    rfl
  · obtain ⟨F, v, d, rfl, fh, ⟨a, u, rfl, ha, hw⟩, q⟩ := h
    have hH := fh _ _ ha
    refine ⟨_, pss_one (ps_ret (pe_tup (pa_cons (pe_ix ix_tup (pv 0) pe_int (fun _ _ => rfl)) (pa_cons (pe_ix ix_tup (pv 0) pe_int (fun _ _ => rfl)) pa_nil)))), ?_⟩
    exact ⟨_, rfl, a, _, 0, _, rfl, rfl, SqT.of hH, rfl, _, rfl, a, _, 1, _, rfl, rfl, SqT.of hH, rfl, by show 2 ≤ sizeLine; decide, fun p np => q p np⟩
theorem ok_word_of {f : Addr} {fd : FuncData} (F0 : Fun K "word_of" "word_of" s_word_of f fd) : FnOk P w K mg base CX0 1 f fd ["deed"] spWordOf := by
  refine F0.ok sc_word_of (fun vs H Q E h => ?_) (fun cdv A outer s H vs Q E hr h => ?_)
  · obtain ⟨F, v, d, rfl, _⟩ := h
    rfl
  · obtain ⟨F, v, d, rfl, fh, ⟨a, u, rfl, ha, hw⟩, q⟩ := h
    have hH := fh _ _ ha
    obtain ⟨b, rest, rfl, hb⟩ := what_tup hw
    refine ⟨_, pss_one (ps_ret (pe_ix ix_tup (pe_ix ix_tup (pv 0) pe_int (fun _ _ => rfl)) pe_int (fun _ _ => rfl))), ?_⟩
    exact ⟨_, rfl, a, _, 3, _, rfl, rfl, SqT.of hH, rfl, b, _, 0, _, rfl, rfl, SqT.of (fh _ _ hb), atI_nat (j := 0) rfl, q⟩
set_option maxHeartbeats 1000000 in
theorem ok_in_order {f fS : Addr} {fd fdS : FuncData} (F0 : Fun K "in_order" "in_order" s_in_order f fd) (FS : Fun K "stamp" "stamp" s_stamp fS fdS) (gS : mg "stamp" = some (.ref fS)) (T : TxO mg) (CN : Cal P w K mg base 1 "name_of" ["deed"] spNameOf) : FnOk P w K mg base CX0 4 f fd ["deeds"] spInOrder := by
  obtain ⟨f1, fd1, G1, g1, kp1, b1⟩ := CN
  refine F0.ok sc_in_order (fun vs H Q E h => ?_) (fun cdv A outer s H vs Q E hr h => ?_)
  · obtain ⟨F, v, ds, rfl, _⟩ := h
    rfl
  · obtain ⟨F, v, ds, rfl, fh, ⟨a, xs, rfl, ha, hp⟩, uq, len, q⟩ := h
    have hr1 : Room 1 _ := hr.mono (by decide)
    have hu1 := hu_of hr1
    refine ⟨_, pss_cons (ps_setDcT (i := 1) (own := [("deed", 2)]) (g := gName 2) (tt := tYes) (tk := tCall spNameOf [] E0 (tCons (tVar 2) tNil)) (tv := tVar 2) (by rfl) hu1 sc_in_order.nd rfl rfl (sw_dict rfl rfl rfl (by decide +kernel)) (pi_list (pv 0))
        (blkOk_by (own := [("deed", 2)]) (N := ["deeds", "by_name", "deed"]) (sc := defScope s_in_order) (by decide +kernel)) (fun _ _ _ _ _ => pg_name (i := 2) sc_in_order.nd rfl (.inl rfl)) (fun _ _ _ _ _ => pts_nil)
        (fun _ _ _ _ _ => pe_call G1 hr1 (by rfl) g1 kp1 b1 .nil pass0 (pa_cons (pv 2) pa_nil)) (fun _ _ _ _ _ => pv 2))
      (pss_one (ps_ret (pe_callBK (cr_sortStamp (g := fun d : Deed => (d.h, d.n, d.t)) hr FS) (by rfl) T.sorted (by decide +kernel) (pa_cons (pe_bm0 PySem.F.plainAttrs_dict PySem.F.slot_dict_values PySem.F.type_dict_values mt_values (pv 1)) pa_nil)
        (pk_cons (pe_glob (v := .ref fS) (by rfl) gS rfl) pk_nil)))), ?_⟩
    refine ⟨_, rfl, a, rfl, ⟨xs, SqL.of (fh _ _ ha)⟩, fun D nD => ?_⟩
    refine it_by (walk_list (K := K) (a := a) (xs := xs)) (fun i H' => ∃ (F' : Hp) (kvs : List (List Key × V)) (es : List Deed), Ext M0 F H F' H' ∧ H' D = some (.dT kvs) ∧ F' D = none ∧ DVal (kDeed.is F') (fun d => kk (name d)) kvs es ∧ (es.map fun d => kk (name d)).Nodup ∧ (∀ d, d ∈ es ↔ d ∈ ds.take i) ∧ es.length ≤ i)
      ⟨F, [], [], (Ext.refl fh).tmp nD, upd_same, fh.free nD, .nil, .nil, fun d => by simp, Nat.le_refl _⟩ (fun i H' _ ⟨_, _, _, X, _⟩ => SqL.of (X.fh _ _ (X.ff _ _ ha))) ?_ ?_
    · rintro i x _ H2 hi ⟨F2, kvs, es, X2, hD, fD, dv, nd, hm, hl⟩ ⟨rfl, hx⟩
      obtain ⟨d, hd, hdv⟩ := pr_get hp hx
      have hdv2 := kDeed.mono X2.ff hdv
      have i10 : i < 100000 := by have := (List.getElem?_eq_some_iff.mp hd).1; omega
      refine ⟨rfl, _, rfl, F2, x, d, rfl, X2.fh, hdv2, fun p np => ⟨_, rfl, kvs, kk (name d), p, rfl, upd_same, ?_, by rw [dv.len, sizeLine_eq]; omega, ?_⟩⟩
      · rw [upd_ne (ne_of_none hD np)]; exact hD
      · have dmem : d ∈ ds := List.mem_of_getElem? hd
        obtain ⟨es', dv', nd', hm', hl'⟩ := dv.put nd hdv2 fun y hy e => uq y (List.mem_of_mem_take ((hm y).mp hy)) d dmem (kk_inj e)
        refine ⟨F2, _, es', (X2.tmp np).put (.inl nD) fD, upd_same, fD, dv', nd', fun e => ?_, by omega⟩
        rw [hm' e, hm e, show ds.take (i + 1) = ds.take i ++ [d] by rw [List.take_add_one, hd]; rfl, List.mem_append, List.mem_singleton]
    · rintro H2 ⟨F2, kvs, es, X2, hD, fD, dv, nd, hm, hl⟩
      rw [pr_len hp, List.take_length] at hm
      refine ⟨_, rfl, .inr (.inr (.inl ⟨rfl, .inr ⟨_, hD⟩⟩)), D, kvs, rfl, rfl, hD, fun p np => ?_⟩
      have X3 := X2.tmp (o := vwO p D) np
      have hD3 : upd H2 p (vwO p D) D = some (.dT kvs) := by rw [upd_ne (ne_of_none hD np)]; exact hD
      refine ⟨rfl, p, D, kvs, kDeed.is F2, es, fS, rfl, rfl, upd_same, hD3, ⟨fun v d ⟨t, u, e, ht, _⟩ => ⟨t, u, e, X3.fh _ _ ht⟩⟩, dv.vals, fun ys z py nz => ?_⟩
      have X4 := X3.tmp (o := .lst ys) nz
      exact q F2 _ z ys _ X4 (X3.free nz) (X3.ffree nz) upd_same py (line_sort nd hm)
end
end Rw
namespace Rw
open PySem PySem.Spec PySem.Calls PyProof.Rows L2
/-! ### dict(xs), xs a list of pairs (tuple, anything); sorted(d) of a dict whose keys are three ints -/
structure PairE where
  t : Addr
  ka : Addr
  k : List Key
  v : V
def putAll (es : List PairE) : List (List Key × V) := es.foldl (fun kvs e => putK kvs e.k e.v) []
section
variable {X : Cx}
def rDictG : List V → Hp → VK → Prop := fun xs H Q => ∃ (a : Addr) (es : List PairE), xs = [.ref a] ∧ H a = some (.lst (es.map fun e => V.ref e.t)) ∧ (∀ e ∈ es, H e.t = some (.tup [.ref e.ka, e.v]) ∧ H e.ka = some (.tup (e.k.map kV))) ∧
  ∀ p, H p = none → Q (.ref p) (upd H p (.dT (putAll es)))
theorem putAll_len (es : List PairE) : (putAll es).length ≤ es.length := by
  have g : ∀ (es : List PairE) (kvs : List (List Key × V)), (es.foldl (fun kvs e => putK kvs e.k e.v) kvs).length ≤ kvs.length + es.length := by
    intro es
    induction es with
    | nil => intro kvs; simp
    | cons e es ih =>
      intro kvs
      have h1 := ih (putK kvs e.k e.v)
      have h2 := putK_le kvs e.k e.v
      rw [List.foldl_cons, List.length_cons]
      omega
  have := g es []
  simpa [putAll] using this
theorem cr_dictG (hc : X.calm = true) (hu : X.A.units + 64 < cLine) : CallR X (.type "dict") rDictG := by
  intro pins s σ H xs us Q I r h
  obtain ⟨a, es, rfl, ha, he, q⟩ := h
  rw [Vals.ref1 r]
  obtain ⟨its, rv, pl, hz⟩ := I.list (SqL.of ha)
  rw [List.length_map] at hz
  have ei : its = es.map fun e => Value.ref e.t := by
    have z : ∀ (l : List PairE) (us : List Value), Vals (l.map fun e => V.ref e.t) us → us = l.map fun e => Value.ref e.t := by
      intro l
      induction l with
      | nil => intro us r; cases r; rfl
      | cons e l ih => intro us r; cases r with
        | cons r1 r2 => cases r1; rw [ih _ r2]; rfl
    exact z es its rv
  subst ei
  have pl' : PySem.PlainSeq "list" s.heap a (es.map fun e => Value.ref e.t).toArray := by
    obtain ⟨o, n, ho, hcl, hd, hdat⟩ := pl
    exact ⟨o, n, ho, hcl, hd, hdat⟩
  have pa : ∀ e ∈ es, ∃ u, RelV e.v u ∧ PySem.PairAt s.heap e.t (.ref e.ka) u := fun e hm => by
    obtain ⟨_, its2, r2, tp⟩ := I.hok _ _ (he e hm).1
    obtain ⟨u1, u2, rfl, ri, rj⟩ := vals2 r2
    cases ri
    exact ⟨u2, rj, .inl tp⟩
  obtain ⟨zs, ez, hzs⟩ : ∃ zs : List (PairE × Value), zs.map (·.1) = es ∧ ∀ z ∈ zs, RelV z.1.v z.2 ∧ PySem.PairAt s.heap z.1.t (.ref z.1.ka) z.2 := by
    have g : ∀ l : List PairE, (∀ e ∈ l, e ∈ es) → ∃ zs : List (PairE × Value), zs.map (·.1) = l ∧ ∀ z ∈ zs, RelV z.1.v z.2 ∧ PySem.PairAt s.heap z.1.t (.ref z.1.ka) z.2 := by
      intro l
      induction l with
      | nil => exact fun _ => ⟨[], rfl, fun z h => absurd h (by simp)⟩
      | cons e l ih =>
        intro sub
        obtain ⟨zs, e1, h1⟩ := ih fun x hx => sub x (List.mem_cons_of_mem _ hx)
        obtain ⟨u, r1, p1⟩ := pa e (sub e List.mem_cons_self)
        refine ⟨(e, u) :: zs, by rw [List.map_cons, e1], fun z hz => ?_⟩
        rcases List.mem_cons.mp hz with rfl | hz
        · exact ⟨r1, p1⟩
        · exact h1 z hz
    exact g es fun _ h => h
  have lz : zs.length = es.length := by rw [← ez, List.length_map]
  have hez : ∀ z ∈ zs, z.1 ∈ es := fun z hz => by rw [← ez]; exact List.mem_map.mpr ⟨z, hz, rfl⟩
  have items : PySem.PairItems s.heap (es.map fun e => Value.ref e.t).toArray (fun j => (es.map (·.t)).getD j 0) (zs.map fun z => (Value.ref z.1.ka, z.2)) := by
    refine ⟨by simp [lz], fun j k v e => ?_⟩
    rw [List.getElem?_map] at e
    cases g : zs[j]? with
    | none => rw [g] at e; cases e
    | some x =>
      rw [g] at e
      cases e
      have g2 : es[j]? = some x.1 := by rw [← ez, List.getElem?_map, g]; rfl
      have gd : (es.map (·.t)).getD j 0 = x.1.t := by rw [List.getD_eq_getElem?_getD, List.getElem?_map, g2]; rfl
      refine ⟨by simp [g2, gd], ?_⟩
      show PySem.PairAt s.heap ((es.map (·.t)).getD j 0) _ _
      rw [gd]
      exact (hzs x (List.mem_of_getElem? g)).2
  have isk : ∀ e ∈ es, (tupleKind (mixKind X.prog X.w)).is s.heap e.k e.ka := fun e hm => key_of I.hok (he e hm).2
  refine PySem.call_dict_pairsH (knd := tupleKind (mixKind X.prog X.w)) (ps := zs.map fun z => (z.1.k, z.1.ka, z.2)) (PySem.PairArg.list a _ _ (zs.map fun z => (Value.ref z.1.ka, z.2))) (I.ok.hd hc) ?room ⟨pl', items⟩ ⟨by simp, fun i key v rel => ?_⟩ (fun h' k x hx => ?_) (by simpa [lz] using hz) fun h' tk hd k => ?_
  case room => show X.A.in1.in1.units < cLine; show X.A.units + 1 + 1 < cLine; omega
  · have rel : (zs.map fun z => (Value.ref z.1.ka, z.2))[i]? = some (key, v) := rel
    rw [List.getElem?_map] at rel
    cases g : zs[i]? with
    | none => rw [g] at rel; cases rel
    | some x =>
      rw [g] at rel
      cases rel
      exact ⟨x.1.k, x.1.ka, by rw [List.getElem?_map, g]; rfl, rfl⟩
  · obtain ⟨z, hm, rfl⟩ := List.mem_map.mp hx
    obtain ⟨o, its', n, ho, rest⟩ := isk z.1 (hez z hm)
    exact ⟨o, its', n, k _ o (Nat.ne_of_lt (Heap.lt_size ho)) (by simp) ho, rest⟩
  · have new : H s.heap.objs.size = none := I.hok.fresh (Nat.le_refl _)
    have kt : ∀ (o : HO) (M : List (PairE × Value)) (kvs : List (List Key × V)) (xs : List (List Key × Addr × Value)), KT (upd H s.heap.objs.size o) kvs xs → (∀ z ∈ M, z ∈ zs) →
        KT (upd H s.heap.objs.size o) ((M.map (·.1)).foldl (fun kvs e => putK kvs e.k e.v) kvs) (PySem.storedAllH xs (M.map fun z => (z.1.k, z.1.ka, z.2))) := by
      intro o M
      induction M with
      | nil => exact fun kvs xs r _ => r
      | cons z M ih =>
        intro kvs xs r sub
        have hm := sub z List.mem_cons_self
        have hk := (he z.1 (hez z hm)).2
        exact ih _ _ (r.put z.1.k (b := z.1.ka) ((upd_ne (ne_of_none hk new)).trans hk) (hzs z hm).1) fun x hx => sub x (List.mem_cons_of_mem _ hx)
    have KTf : ∀ o : HO, KT (upd H s.heap.objs.size o) (putAll es) (PySem.storedAllH [] (zs.map fun z => (z.1.k, z.1.ka, z.2))) := fun o => by
      have := kt o zs [] [] .nil fun _ h => h
      rw [ez] at this
      exact this
    obtain ⟨od, esd, epd, q1, q2, q3, q4, _, q6⟩ := hd
    exact ⟨.ref s.heap.objs.size, _, I.laid (t' := tk) (fun b o e => k b o (by simp) e) (Nat.le_refl _) (show ObjOk X.prog X.w _ _ _ (.dT (putAll es)) from ⟨Nat.le_trans (putAll_len es) (by simpa using hz), beq_eq_false_iff_ne.mpr (Nat.ne_of_gt I.big), _, KTf _, od, esd, epd, q1, q2, q3, q4, q6⟩), rfl, q _ (I.hok.fresh (Nat.le_refl _))⟩
end
/-! sorted(d) -/
def k3 (d : Int × Int × Int) : List Key := [.inl d.1, .inl d.2.1, .inl d.2.2]
def kTri : Kd (Int × Int × Int) := ⟨fun F v p => ∃ t, v = .ref t ∧ F t = some (.tup [.int p.1, .int p.2.1, .int p.2.2]), fun s ⟨t, e, h⟩ => ⟨t, e, s _ _ h⟩⟩
def leT (a b : Int × Int × Int) : Bool := decide (a.1 < b.1 ∨ (a.1 = b.1 ∧ (a.2.1 < b.2.1 ∨ (a.2.1 = b.2.1 ∧ a.2.2 ≤ b.2.2))))
def dTri (a : Int × Int × Int) : PyData := .tuple [.int a.1, .int a.2.1, .int a.2.2]
theorem dataLe_tri : PySem.W.dataLe false dTri = leT := by
  funext a b
  rw [PySem.W.dataLe_eq]
  show (!PySem.W.dataLt (dTri b) (dTri a)) = _
  unfold dTri leT
  rw [dataLt3]
  by_cases c : a.1 < b.1 ∨ (a.1 = b.1 ∧ (a.2.1 < b.2.1 ∨ (a.2.1 = b.2.1 ∧ a.2.2 ≤ b.2.2)))
  · rw [decide_eq_true c, decide_eq_false (by omega)]; rfl
  · rw [decide_eq_false c, decide_eq_true (by omega)]; rfl
theorem each_imp {β : Type} {R S : Value → β → Prop} (h : ∀ v b, R v b → S v b) : ∀ {vs : List Value} {bs : List β}, PySem.W.EachIs R vs bs → PySem.W.EachIs S vs bs
  | _, _, .nil => .nil
  | _, _, .cons r t => .cons (h _ _ r) (each_imp h t)
section
variable {prog : Program} {w : World} {A : Around} {E : Value → Shared → Prop} {s : Shared} {T : String} {r d : Addr} {n : Nat} {P : Nat → Value → Prop} {OK : Heap → Prop} {β : Type} {R : Value → β → Prop}
theorem sorted_srcD {vs : List Value} {bs : List β} {Q : Value → Shared → Prop} (enc : β → PyData) (K : PySem.W.KdlSrc prog w T r d n P OK) (calm : A.handled = none) (hok : OK s.heap) (hn : n ≤ sizeLine) (hv : ∀ acc, ItemsOf P acc n → acc.toList = vs)
    (each : PySem.W.EachIs R vs bs) (hr : ∀ h : Heap, (∀ b o, s.heap.get? b = some o → h.get? b = some o) → PySem.W.EachIs (fun v b => Reads h v (enc b) []) vs bs) (hal : PySem.W.AllAlike (bs.map enc)) (hk : PySem.W.Sortable (bs.map enc)) (hu : ∀ x, x ∈ bs → A.units + 2 + (enc x).depth < cLine)
    (fin : ∀ (out : List Value) (g1 g : Heap) (tk c : Nat) (e : Addr), (∀ b o, s.heap.get? b = some o → g1.get? b = some o) → (∀ b o, g1.get? b = some o → g.get? b = some o) → g1.objs.size ≤ e → g.get? e = some (seqObj "list" (List.toArray out) c) →
      out.length = bs.length → PySem.W.EachIs R out (bs.mergeSort (PySem.W.dataLe false enc)) → Q (.ref e) { s with heap := g, toks := tk }) :
    wpAny (model prog w) A (call (.builtin "sorted") [.ref r]) Q E s := by
  refine Calls.call_function_entry kind_sorted plain_sorted entry_sorted (args_sorted1 _) ?_
  unfold Builtin.«sorted»
  refine wpAny_bind (m := checkCount "sorted" 1 1 _) (wpAny_pure (wpAny_bind (PySem.W.kdu_collect (A := A.in1) K calm hok hn fun h' tk acc kept items => ?_)))
  have e := hv acc items
  have few : vs.length ≤ sizeLine := by rw [← e, Array.length_toList, items.1]; exact hn
  rw [e]
  refine wpAny_bind (wpAny_newList ?_ few)
  have atL : (h'.push (seqObj "list" vs.toArray 0)).get? h'.objs.size = some (seqObj "list" vs.toArray 0) := Heap.get?_push_size _ rfl
  have up : ∀ b o, s.heap.get? b = some o → (h'.push (seqObj "list" vs.toArray 0)).get? b = some o := fun b o q => Heap.get?_push_of_some _ (kept b o q)
  show wpAny _ _ _ _ _ { s with heap := h'.push (seqObj "list" vs.toArray 0), toks := tk }
  refine wpAny_bind (wpAny_holding (PySem.W.list_sort_data (s := { s with heap := h'.push (seqObj "list" vs.toArray 0), toks := tk }) (enc := enc) atL each (each_imp (fun v b r => ⟨[], r, by simp⟩) (hr _ up)) hal hk (by rw [← each.length]; exact few) (fun x hx => ?_) fun out len eo => ?_))
  · have := hu x hx
    show A.units + 1 + 1 + _ < _
    omega
  · obtain ⟨c, hc⟩ := sortedHeap_at (vs := vs) (out := out.toArray) atL
    refine wpAny_pure ⟨_, rfl, fin out h' _ tk c h'.objs.size kept (fun b o q => ?_) (Nat.le_refl _) hc len eo⟩
    have hb : b < h'.objs.size := Heap.lt_size q
    rw [sortedHeap_old (Nat.ne_of_lt hb) (by rw [size_push']; exact Nat.lt_succ_of_lt hb)]
    exact Heap.get?_push_of_some _ q
end
section
variable {X : Cx}
theorem keys_tri {H : Hp} : ∀ {kvs : List (List Key × V)} {bs : List Addr} {ps : List (Int × Int × Int)}, IsKeys H kvs bs → kvs.map (·.1) = ps.map k3 → Paired (kTri.is H) (bs.map V.ref) ps
  | [], _, [], .nil, _ => .nil
  | [], _, _ :: _, .nil, e => by simp at e
  | _ :: _, _, [], _, e => by simp at e
  | kv :: kvs, _, p :: ps, .cons (b := b) r t, e => by
    have e1 := List.cons.inj e
    refine .cons ⟨b, rfl, ?_⟩ (keys_tri t e1.2)
    have : kv.1 = k3 p := e1.1
    rw [this] at r
    exact r
def rSortedD3 : List V → Hp → VK → Prop := fun vs H Q => ∃ (d : Addr) (kvs : List (List Key × V)) (ps : List (Int × Int × Int)), vs = [V.ref d] ∧ H d = some (.dT kvs) ∧ kvs.map (·.1) = ps.map k3 ∧
  ∀ (ys : List V) (p : Addr), Paired (kTri.is H) ys (ps.mergeSort leT) → H p = none → Q (.ref p) (upd H p (.lst ys))
theorem reads_tri {h : Heap} {t : Addr} {p : Int × Int × Int} {o : Obj} {n : Nat} {t1 t2 t3 : Tok} (e : h.get? t = some o) (hc : o.cls = .type "tuple") (hd : o.data = .seq #[.int p.1 t1, .int p.2.1 t2, .int p.2.2 t3] n) : Reads h (.ref t) (dTri p) [] := by
  unfold dTri
  refine .tuple e hc hd ?_
  show ReadsAll h [.int p.1 t1, .int p.2.1 t2, .int p.2.2 t3] [.int p.1, .int p.2.1, .int p.2.2] []
  exact .cons (as := []) (bs := []) (.int _ _) (.cons (as := []) (bs := []) (.int _ _) (.cons (as := []) (bs := []) (.int _ _) .nil))
theorem cr_sortedD3 (hr : Room 3 X.A) : CallR X (.builtin "sorted") rSortedD3 := by
  intro pins s σ H xs us Q I r h
  obtain ⟨d, kvs, ps, rfl, hd, hps, q⟩ := h
  obtain rfl := Vals.ref1 r
  obtain ⟨z, sm, ks, kt, o, es, ep, ho, hx, hdt, he, hn⟩ := (show ObjOk X.prog X.w H s.heap d (.dT kvs) from I.hok d _ hd)
  have l1 : es.size = ks.length := size_of_entries he
  have l2 : kvs.length = ks.length := Paired.length kt
  have hpp : Paired (kTri.is H) ((ks.map fun x => x.2.1).map V.ref) ps := keys_tri (isKeys_of kt) hps
  have l3 : ks.length = ps.length := by have := pr_len hpp; simpa using this
  have vv : Vals ((ks.map fun x => x.2.1).map V.ref) ((ks.map fun x => x.2.1).map Value.ref) := by
    have g : ∀ l : List Addr, Vals (l.map V.ref) (l.map Value.ref) := by
      intro l
      induction l with
      | nil => exact .nil
      | cons a l ih => exact .cons rfl ih
    exact g _
  have each := each_of vv hpp
  refine sorted_srcD (vs := (ks.map fun x => x.2.1).map Value.ref) (bs := ps) dTri (kdl_raw sm hx hdt) hr.hd ho (by omega) (fun acc' it => ?_) each (fun g kp => ?rd)
    (PySem.W.AllAlike.of fun _ _ => by simp [dTri, PySem.W.alike, PySem.W.alikeAll]) (PySem.W.Sortable.tuples fun _ => ⟨_, _, rfl⟩) (fun x _ => ?_) ?fin
  · have hl : acc'.toList.length = ks.length := by rw [Array.length_toList, it.1]; exact l1
    rw [List.map_map]
    apply List.ext_getElem?
    intro j
    rw [List.getElem?_map]
    cases hj : acc'.toList[j]? with
    | none =>
      have h1 := List.getElem?_eq_none_iff.mp hj
      rw [List.getElem?_eq_none (by omega)]
      all_goals rfl
    | some v =>
      obtain ⟨en, hen, hv⟩ := it.2 j v (by rw [← Array.getElem?_toList]; exact hj)
      have qe := entry_at he j
      rw [hen] at qe
      cases hb : ks[j]? with
      | none =>
        rw [hb] at qe
        exact nomatch (show some en = none from qe)
      | some b =>
        rw [hb] at qe
        have e2 : en = entryOfKey (tupleKind (mixKind X.prog X.w)) b := Option.some.inj qe
        rw [hv, e2]
        all_goals rfl
  case rd =>
    refine each_imp (fun v b hvb => ?_) each
    obtain ⟨v', rv, t, rfl, ht⟩ := hvb
    cases rv
    have I2 : Inv X pins σ H { s with heap := g, toks := s.toks } := I.kept (t' := s.toks) kp
    obtain ⟨_, its, rv2, o', ho', hc', n', hd'⟩ := I2.hok _ _ ht
    obtain ⟨t1, t2, t3, rfl⟩ : ∃ t1 t2 t3, its = [.int b.1 t1, .int b.2.1 t2, .int b.2.2 t3] := by
      cases rv2 with
      | cons a1 b1 => cases b1 with
        | cons a2 b2 => cases b2 with
          | cons a3 b3 =>
            cases b3
            obtain ⟨t1, rfl⟩ := a1
            obtain ⟨t2, rfl⟩ := a2
            obtain ⟨t3, rfl⟩ := a3
            exact ⟨t1, t2, t3, rfl⟩
    exact reads_tri ho' hc' hd'
  · have hd : (dTri x).depth = 1 := by simp [dTri, PyData.depth, PyData.depthAll]
    have := hr.un
    omega
  case fin =>
    intro out g1 g2 tk c e k1 k2 le at' len eo
    rw [dataLe_tri] at eo
    obtain ⟨ys, ry, py⟩ := of_each eo
    have I1 : Inv X pins σ H { s with heap := g1 } := I.kept (t' := s.toks) k1
    have few : ys.length ≤ sizeLine := by rw [pr_len py, (List.mergeSort_perm ps _).length_eq]; omega
    exact ⟨.ref e, upd H e (.lst ys), I1.laid (t' := tk) k2 le ⟨few, out, c, ry, at'⟩, rfl, q ys e py (I1.hok.fresh le)⟩
end
end Rw
namespace Gx
open PySem PySem.Spec PyProof.Rows L2
open Sem (wp)
/-! ### a generator expression whose target is of any form: one turn told as a whole -/
section
variable {prog : Program} {w : World} {A : Around}
/-- what one turn does: the target is stored in the generator's own frame, the element is reckoned -/
def TurnOk (prog : Program) (w : World) (ce : Env) (tg elt : Expr) (fp wr : List Addr) (P F : Nat → Value → Prop) (h0 : Heap) : Prop :=
  ∀ (B : Around) (E' : Value → Shared → Prop) (i : Nat) (v : Value) (s : Shared) (m : Str → Option Value), B.handled = none → P i v → s.heap.Ns ce.locals m →
    (∀ b, b ∈ fp → b ∉ wr → ∀ o, h0.get? b = some o → s.heap.get? b = some o) →
    wpAny (model prog w) B (assign tg ce v) (fun _ t => ∃ h1 k1 m1, t = { s with heap := h1, toks := k1 } ∧ (∀ b o, b ≠ ce.locals → s.heap.get? b = some o → h1.get? b = some o) ∧ h1.Ns ce.locals m1 ∧
      ∀ E2 : Value → Shared → Prop, wpAny (model prog w) B (eval elt ce) (fun y u => F i y ∧ Keeps { s with heap := h1, toks := k1 } u) E2 { s with heap := h1, toks := k1 }) E' s
abbrev yes : Nat → Bool := fun _ => true
theorem passing_yes {n i : Nat} (h : i < n) : (passing yes n i).length = (passing yes n (i + 1)).length + 1 := by
  rw [PySem.passing_true h rfl, List.length_cons]
theorem gx_loop {elt tg iter : Expr} {scope : Scope} {pos : Pos} {I : Addr} {fp wr : List Addr} {n : Nat} {P F : Nat → Value → Prop} {St : Nat → Heap → Prop} {ce : Env} {h0 : Heap}
    (hh : A.handled = none) (W : ∀ B : Around, B.handled = none → Walks prog w B I fp wr n P St)
    (go : ∀ (B : Around) (i : Nat) (v : Value) (s : Shared) (Q : Unit → Shared → Prop) (E' : Value → Shared → Prop), St i s.heap → Q () s → wpAny (model prog w) B (letOwnedTupleGo tg (.ref I) v) Q E' s)
    (hco : ce.scope.isCoroutine = false) (hC : ce.locals ∉ fp) (T : TurnOk prog w ce tg elt fp wr P F h0) :
    ∀ (k i : Nat) (s0 s : Shared) (m : Str → Option Value), n = i + k → St i s.heap → s.heap.Ns ce.locals m → GenSince ce.locals wr s0 s → (∀ b, b ∈ fp → b ∉ wr → ∀ o, h0.get? b = some o → s.heap.get? b = some o) →
      Seg (model prog w) A (fun j a r b => r = .ok .next ∧ (j = 0 ∧ GenSince ce.locals wr a b)) (genProto ce.locals fp wr yes n F) (passing yes n i).length s0
        (.compLoop (.GeneratorExp elt [⟨tg, iter, [], 0⟩] scope pos) 0 (.ref I) .none ce) ((model prog w).den (.compLoop (.GeneratorExp elt [⟨tg, iter, [], 0⟩] scope pos) 0 (.ref I) .none ce)) [] s := by
  have hB : (A.over (.compLoop (.GeneratorExp elt [⟨tg, iter, [], 0⟩] scope pos) 0 (.ref I) .none ce) []).handled = none := hh
  have hCw : ce.locals ∉ wr := fun z => hC ((W A hh).sub _ z)
  intro k
  induction k with
  | zero =>
    intro i s0 s m hk hst hn since keep
    obtain rfl : n = i := by omega
    show Seg _ A _ _ _ s0 _ ((compTurn (.GeneratorExp elt [⟨tg, iter, [], 0⟩] scope pos) 0 (.ref I) .none ce).onRaise (leaving ce)) [] s
    rw [compTurn_gen, Sem.onRaise_eq_wrap]
    refine seg_bind_wrap (wpAny_standAt (seg_bind_wrap ((W _ hB).done s _ _ hst fun h1 t1 k1 => ?_)))
    exact seg_end (.ok .next) ⟨rfl, by rw [passing_end]; rfl, since.step fun b o _ q e => k1 b o q e⟩
  | succ k ih =>
    intro i s0 s m hk hst hn since keep
    have hi : i < n := by omega
    show Seg _ A _ _ _ s0 _ ((compTurn (.GeneratorExp elt [⟨tg, iter, [], 0⟩] scope pos) 0 (.ref I) .none ce).onRaise (leaving ce)) [] s
    rw [compTurn_gen, Sem.onRaise_eq_wrap]
    refine seg_bind_wrap (wpAny_standAt (seg_bind_wrap ((W _ hB).item i s _ _ hi hst fun v h1 t1 hv st1 k1 => ?_)))
    refine seg_bind_wrap (go _ (i + 1) v _ _ _ st1 ?_)
    have n1 : h1.Ns ce.locals m := hn.at' fun o e => k1 _ o hCw e
    have keep1 : ∀ b, b ∈ fp → b ∉ wr → ∀ o, h0.get? b = some o → h1.get? b = some o := fun b q r o e => k1 b o r (keep b q r o e)
    refine seg_bind_wrap (wpAny_mono (T _ _ i v _ m hB hv n1 keep1) (fun _ t ht => ?_) fun _ _ e => e)
    obtain ⟨h2, t2, m2, rfl, k2, n2, ev⟩ := ht
    have st2 : St (i + 1) h2 := (W A hh).frame _ _ _ st1 fun b hb o e => k2 b o (fun z => hC (z ▸ hb)) e
    have keep2 : ∀ b, b ∈ fp → b ∉ wr → ∀ o, h0.get? b = some o → h2.get? b = some o := fun b q r o e => k2 b o (fun z => hC (z ▸ q)) (keep1 b q r o e)
    have since2 : GenSince ce.locals wr s0 { s with heap := h2, toks := t2 } := since.step fun b o z r e => k2 b o z (k1 b o r e)
    refine seg_bind_wrap ?_
    simp only [List.forIn_nil]
    refine wpAny_pure ?_
    simp only [if_true]
    rw [passing_yes hi]
    have hy : ∀ x, yieldOut ce x = yieldValue x := fun x => by simp only [yieldOut, hco, Bool.false_eq_true, if_false]
    simp only [hy]
    rw [Sem.bind_eq_wrap', Sem.bind_eq_wrap', Sem.wrap_wrap, Sem.wrap_wrap]
    refine seg_wrap (wpAny_mono (ev _) (fun y u hu => ?_) fun _ _ e => e)
    obtain ⟨hF, h3, t3, rfl, k3⟩ := hu
    refine seg_at (seg_yield rfl rfl rfl ⟨⟨i, passing_here hi rfl, hF⟩, since2.step fun b o _ _ e => k3 b o e, fun s4 al => ?_⟩)
    refine seg_again rfl (ih (i + 1) s4 s4 m2 (by omega) ((W A hh).frame _ _ _ st2 fun b hb o e => al b (List.mem_cons_of_mem _ hb) o (k3 b o e)) ((n2.keeps k3).at' fun o e => al _ List.mem_cons_self o e) (GenSince.refl _ _ _)
      fun b q r o e => al b (List.mem_cons_of_mem _ q) o (k3 b o (keep2 b q r o e)))
theorem gx_start {elt tg iter : Expr} {scope : Scope} {pos : Pos} {I : Addr} {fp wr : List Addr} {n : Nat} {P F : Nat → Value → Prop} {St : Nat → Heap → Prop} {ce : Env} {h0 : Heap}
    (hh : A.handled = none) (W : ∀ B : Around, B.handled = none → Walks prog w B I fp wr n P St)
    (go : ∀ (B : Around) (i : Nat) (v : Value) (s : Shared) (Q : Unit → Shared → Prop) (E' : Value → Shared → Prop), St i s.heap → Q () s → wpAny (model prog w) B (letOwnedTupleGo tg (.ref I) v) Q E' s)
    (hco : ce.scope.isCoroutine = false) (hC : ce.locals ∉ fp) (T : TurnOk prog w ce tg elt fp wr P F h0) (s0 s : Shared) (m : Str → Option Value) (hst : St 0 s.heap) (hn : s.heap.Ns ce.locals m)
    (since : GenSince ce.locals wr s0 s) (keep : ∀ b, b ∈ fp → b ∉ wr → ∀ o, h0.get? b = some o → s.heap.get? b = some o) :
    Seg (model prog w) A (fun j a r b => r = .ok .next ∧ (j = 0 ∧ GenSince ce.locals wr a b)) (genProto ce.locals fp wr yes n F) (passing yes n 0).length s0
      (.compStart (.GeneratorExp elt [⟨tg, iter, [], 0⟩] scope pos) 0 (.ref I) .none ce) ((model prog w).den (.compStart (.GeneratorExp elt [⟨tg, iter, [], 0⟩] scope pos) 0 (.ref I) .none ce)) [] s := by
  have hB : (A.over (.compStart (.GeneratorExp elt [⟨tg, iter, [], 0⟩] scope pos) 0 (.ref I) .none ce) []).handled = none := hh
  have lp := gx_loop (elt := elt) (iter := iter) (scope := scope) (pos := pos) hh W go hco hC T n 0 s0 s m (by omega) hst hn since keep
  show Seg _ A _ _ _ s0 _ ((compStart (.GeneratorExp elt [⟨tg, iter, [], 0⟩] scope pos) 0 (.ref I) .none ce).onRaise (leaving ce)) [] s
  unfold compStart
  rw [Sem.onRaise_eq_wrap]
  show Seg _ A _ _ _ s0 _ ((ask >>= _).wrap _ _ _ _) [] s
  refine seg_bind_wrap (wpAny_askSetting ?_)
  split
  · exact seg_again rfl lp
  · refine seg_bind_wrap (wpAny_rule ?_)
    show Seg _ A _ _ _ s0 _ ((standAt iter.pos >>= _).wrap _ _ _ _) [] s
    exact seg_bind_wrap (wpAny_standAt (seg_bind_wrap ((W _ hB).self 0 s _ _ hst (seg_again rfl lp))))
end
end Gx
set_option maxHeartbeats 1000000
namespace Gx
open PySem PySem.Spec PyProof.Rows L2 GxR
section
variable {prog : Program} {w : World} {A : Around} {E : Value → Shared → Prop} {s : Shared}
/-- what must be so when the generator is made: its source, its turns, what follows -/
structure Src (prog : Program) (w : World) (A : Around) (env : Env) (scope : Scope) (cl : List (Str × Addr)) (tg elt : Expr) (code : Value) (bi : Addr) (it : Value) (Q : Value → Shared → Prop) (s : Shared) : Prop where
  ex : ∃ (I : Addr) (fp wr : List Addr) (n : Nat) (P F : Nat → Value → Prop) (St : Nat → Heap → Prop), it = .ref I ∧ (∀ B : Around, B.handled = none → Walks prog w B I fp wr n P St) ∧
    (∀ (B : Around) (i : Nat) (v : Value) (t : Shared) (Q' : Unit → Shared → Prop) (E' : Value → Shared → Prop), St i t.heap → Q' () t → wpAny (model prog w) B (letOwnedTupleGo tg (.ref I) v) Q' E' t) ∧
    St 0 s.heap ∧ (∀ b ∈ fp, b < s.heap.objs.size) ∧ s.heap.NoLimit ∧ cStatics ∉ wr ∧
    (∀ h0 : Heap, (∀ b o, s.heap.get? b = some o → h0.get? b = some o) → TurnOk prog w (genEnv scope cl s.heap.objs.size code bi env) tg elt (List.range s.heap.objs.size) wr P F h0) ∧
    ∀ (a : Addr) (h5 : Heap) (tk : Nat) (gs : GenState), gs.bare = true → s.heap.objs.size < a → h5.objs.size = a + 1 → (∀ b o, s.heap.get? b = some o → h5.get? b = some o) →
      WalksS prog w A.in4 a (a :: s.heap.objs.size :: List.range s.heap.objs.size) (s.heap.objs.size :: wr) (GenOnlyQ s.gens.size) (passing yes n 0).length (fun j y => ∃ i, (passing yes n 0)[j]? = some i ∧ F i y)
        (GenAt prog w A.in4 a s.gens.size s.heap.objs.size (List.range s.heap.objs.size) wr yes n F) →
      GenAt prog w A.in4 a s.gens.size s.heap.objs.size (List.range s.heap.objs.size) wr yes n F 0 { s with gens := s.gens.push gs, toks := tk, heap := h5 } → Q (.ref a) { s with gens := s.gens.push gs, toks := tk, heap := h5 }
theorem gx_eval {env : Env} {elt tg iter : Expr} {scope : Scope} {cl : List (Str × Addr)} {pos : Pos} {Q : Value → Shared → Prop} (hh : A.handled = none) (hco : scope.isCoroutine = false) (hclos : closureFor scope env = pure cl)
    (hcell : ∀ y ∈ scope.names, y.2 ≠ .cell) (hd : scope.names.lookup (".0" : Str) = some NameKind.local) (hkind : scope.kind = .function) (hroom : A.depth < recursionLimit)
    (h : wpAny (model prog w) A (eval iter env) (fun xv s1 => wpAny (model prog w) A (pyIter xv) (fun it s2 => s2.heap.NoLimit ∧ wpAny (model prog w) A (genexprCode env pos (env.qual ++ "<genexpr>") scope) (fun code s3 =>
      wpAny (model prog w) A (builtinsFor env.globals env.builtins) (fun bi s4 => Src prog w A env scope cl tg elt code bi it Q s4) E s3) E s2) E s1) E s) (hs : ∀ x, genFold iter env x = pure x) :
    wpAny (model prog w) A (eval (.GeneratorExp elt [⟨tg, iter, [], 0⟩] scope pos) env) Q E s := by
  refine wpAny_GeneratorExp_make hco hclos hcell hd hkind hroom (wpAny_mono h (fun xv s1 q1 => wpAny_mono q1 (fun it s2 q2 => ⟨q2.1, wpAny_mono q2.2 (fun code s3 q3 => wpAny_mono q3 (fun bi s4 q4 => ?_) fun _ _ z => z) fun _ _ z => z⟩) fun _ _ z => z) fun _ _ z => z) hs
  obtain ⟨I, fp, wr, n, P, F, St, rfl, W, go, st0, below, lim, ncs, T, fin⟩ := q4.ex
  have hlt : cStatics < s4.heap.objs.size := let ⟨_, z, _⟩ := lim; z.lt
  intro h1 n1 sb
  have sz : h1.objs.size = s4.heap.objs.size + 1 := by rw [sb.1, Heap.size_push]
  have k1 : ∀ b o, s4.heap.get? b = some o → h1.get? b = some o := fun b o e => sb.extBut b o (Nat.ne_of_lt (Heap.lt_size e)) (Heap.get?_push_of_some _ e)
  have sub : ∀ b ∈ wr, b ∈ List.range s4.heap.objs.size := fun b hb => List.mem_range.mpr (below b ((W A hh).sub b hb))
  have ne1 : h1.objs.size ≠ s4.heap.objs.size := by rw [sz]; exact Nat.succ_ne_self _
  have nm1 : h1.objs.size ∉ List.range s4.heap.objs.size := fun z => by
    have := List.mem_range.mp z
    omega
  have k5 : ∀ b o, s4.heap.get? b = some o → (h1.push { cls := .type "generator", data := .fields #[.int s4.gens.size 0, .str "<genexpr>" (s4.toks + 1), .str (env.qual ++ "<genexpr>") (s4.toks + 1 + 1)] }).get? b = some o := fun b o e => Heap.get?_push_of_some _ (k1 b o e)
  have W4 : ∀ B : Around, B.handled = none → Walks prog w B I (List.range s4.heap.objs.size) wr n P St := fun B hB => (W B hB).mono_fp fun b hb => List.mem_range.mpr (below b hb)
  refine fin _ _ _ _ rfl (by omega) (by rw [Heap.size_push]) k5 (WalksS.genexpQ (A := A.in4) hh _ _ _ _ wr yes n F ne1 nm1 sub hroom (List.mem_range.mpr hlt) (Nat.ne_of_lt hlt) ncs) ?_
  refine ⟨⟨_, _, _, Heap.get?_push_size _ rfl, rfl, rfl, rfl⟩, lim.keeps k5, _, Array.getElem?_push_size .., fun s6 al => ⟨rfl, ?_⟩⟩
  exact gx_start (A := A.in4.in1) hh W4 go hco (fun z => Nat.lt_irrefl _ (List.mem_range.mp z)) (T _ k5) s6 s6 _ ((W4 A hh).frame _ _ _ st0 fun b hb o e => al b (List.mem_cons_of_mem _ hb) o (k5 b o e)) ((n1.push _).at' fun o e => al _ List.mem_cons_self o e) (GenSince.refl _ _ _)
    fun b q _ o e => al b (List.mem_cons_of_mem _ q) o e
end
end Gx
set_option maxHeartbeats 2000000
namespace Gx
open PySem PySem.Spec PyProof.Rows L2 GxR Rw
/-- the generator's own scope: three names, the walked thing at «.0», captured names that the def has -/
structure Sc3 (env : Env) (scope : Scope) (x y z : Str) : Prop where
  kind : scope.kind = .function
  co : scope.isCoroutine = false
  cell : ∀ q ∈ scope.names, q.2 ≠ .cell
  dot : scope.names.lookup (".0" : Str) = some NameKind.local
  lx : scope.names.lookup x = some .local
  ly : scope.names.lookup y = some .local
  lz : scope.names.lookup z = some .local
  free : ∀ q ∈ scope.names, q.2 = .free → ∃ c, env.cells.lookup q.1 = some c
/-- the element, of a row whose three ints the three names hold -/
def EltR (prog : Program) (w : World) (scope : Scope) (x y z : Str) (elt : Expr) (f : Rw.Row → Int) : Prop :=
  ∀ (ce : Env) (B : Around) (E' : Value → Shared → Prop) (r : Rw.Row) (t1 t2 t3 : Tok) (s : Shared) (m : Str → Option Value), ce.scope = scope → s.heap.Ns ce.locals m → m x = some (.int r.1 t1) → m y = some (.int r.2.1 t2) → m z = some (.int r.2.2 t3) →
    wpAny (model prog w) B (eval elt ce) (fun v u => (∃ t, v = .int (f r) t) ∧ Keeps s u) E' s
section
variable {X : Cx} {pins : List (Addr × Obj)} {σ : L2.St} {H : Hp} {s : Shared}
def ReadyR (X : Cx) (pins : List (Addr × Obj)) (σ : L2.St) (H1 : Hp) (P : Addr) (rows : List Rw.Row) (f : Rw.Row → Int) (g : Addr) (s5 : Shared) : Prop :=
  ∃ (fp wr : List Addr) (G : Array GenState → Array GenState → Prop) (F : Nat → Value → Prop) (St : Nat → Shared → Prop), WalksS X.prog X.w X.A.in1 g fp wr G rows.length F St ∧ St 0 s5 ∧ (∀ b ∈ fp, b < s5.heap.objs.size) ∧
    (∀ j v, F j v → ∃ r t, rows[j]? = some r ∧ v = .int (f r) t) ∧ ∀ s', Moved wr G s5 s' → ∃ H2, Tabbed P H1 H2 ∧ Inv X pins σ H2 s'
theorem passing_all (n : Nat) : passing yes n 0 = List.range n := by
  unfold passing
  simp
theorem turn3 {prog : Program} {w : World} {ce : Env} {scope : Scope} {x y z : Str} {p1 p2 p3 pt : Pos} {kt : Nat} {elt : Expr} {f : Rw.Row → Int} {fp wr : List Addr} {its : List Value} {rows : List Rw.Row} {h0 : Heap}
    (hk : ce.scope.kind = .function) (hs : ce.scope = scope) (lx : scope.names.lookup x = some .local) (ly : scope.names.lookup y = some .local) (lz : scope.names.lookup z = some .local) (nxy : x ≠ y) (nxz : x ≠ z) (nyz : y ≠ z)
    (hel : EltR prog w scope x y z elt f)
    (hv : ∀ (i : Nat) (v : Value), its[i]? = some v → ∃ (r : Rw.Row) (t : Addr) (t1 t2 t3 : Tok), rows[i]? = some r ∧ v = .ref t ∧ t ∈ fp ∧ t ∉ wr ∧ IsTup h0 t #[.int r.1 t1, .int r.2.1 t2, .int r.2.2 t3]) :
    TurnOk prog w ce (.Tuple [.Name x p1, .Name y p2, .Name z p3] kt pt) elt fp wr (fun i v => its[i]? = some v) (fun i v => ∃ r t, rows[i]? = some r ∧ v = .int (f r) t) h0 := by
  intro B E' i v s m hB hiv hn keep
  obtain ⟨r, t, t1, t2, t3, hr, rfl, tf, tw, o, ho, hc, n, hd⟩ := hv i v hiv
  have ht : IsTup s.heap t #[.int r.1 t1, .int r.2.1 t2, .int r.2.2 t3] := ⟨o, keep t tf tw o ho, hc, n, hd⟩
  have hp : (ce.scope.kind == .class || (ce.scope.kind == .module && ce.locals != ce.globals)) = false := by rw [hk]; rfl
  have kx : ce.kindOf x = some .local := by show ce.scope.names.lookup x = some .local; rw [hs]; exact lx
  have ky : ce.kindOf y = some .local := by show ce.scope.names.lookup y = some .local; rw [hs]; exact ly
  have kz : ce.kindOf z = some .local := by show ce.scope.names.lookup z = some .local; rw [hs]; exact lz
  have hl : ce.locals < s.heap.objs.size := hn.lt
  refine assign_Tuple_tuple hB ht rfl rfl fun h1 x1 => ?_
  show wpAny (model prog w) B (assignInOrder [assign (.Name x p1) ce, assign (.Name y p2) ce, assign (.Name z p3) ce] [.int r.1 t1, .int r.2.1 t2, .int r.2.2 t3]) _ _ _
  have n1 : h1.Ns ce.locals m := hn.at' fun o e => x1 _ o (Nat.ne_of_lt hl) e
  refine assignInOrder_cons (wpAny_assign_Name (wpAny_storeName_local kx n1 (fun h2 n2 b2 => ?_) hp))
  refine assignInOrder_cons (wpAny_assign_Name (wpAny_storeName_local ky n2 (fun h3 n3 b3 => ?_) hp))
  refine assignInOrder_cons (wpAny_assign_Name (wpAny_storeName_local kz n3 (fun h4 n4 b4 => ?_) hp))
  refine assignInOrder_nil ⟨h4, _, _, rfl, fun b o nb e => ?_, n4, fun E2 => ?_⟩
  · exact b4.extBut b o nb (b3.extBut b o nb (b2.extBut b o nb (x1 b o (Nat.ne_of_lt (Heap.lt_size e)) e)))
  · refine wpAny_mono (hel ce B E2 r t1 t2 t3 _ _ hs n4 ?_ ?_ ?_) (fun u s5 q => ⟨?_, q.2⟩) fun _ _ e => e
    · simp only [if_neg nxz, if_neg nxy, if_pos]
    · simp only [if_neg nyz, if_pos]
    · simp only [if_pos]
    · obtain ⟨tk, e⟩ := q.1
      exact ⟨r, tk, hr, e⟩
end
end Gx
set_option maxHeartbeats 2000000
namespace Gx
open PySem PySem.Spec PyProof.Rows L2 GxR Rw
section
variable {X : Cx} {pins : List (Addr × Obj)} {σ : L2.St} {H : Hp} {s : Shared}
theorem row_at {rows : List Rw.Row} {xs : List V} {its : List Value} {H1 : Hp} {s1 : Shared} (I : Inv X pins σ H1 s1) (hp : Paired (kRow.is H1) xs rows) (rv : Vals xs its) {i : Nat} {v : Value} (h : its[i]? = some v) :
    ∃ (r : Rw.Row) (t : Addr) (t1 t2 t3 : Tok), rows[i]? = some r ∧ v = .ref t ∧ t < s1.heap.objs.size ∧ IsTup s1.heap t #[.int r.1 t1, .int r.2.1 t2, .int r.2.2 t3] := by
  have hl := rv.length
  have hi : i < its.length := by
    rcases Nat.lt_or_ge i its.length with c | c
    · exact c
    · rw [List.getElem?_eq_none c] at h; cases h
  have hx : xs[i]? = some xs[i] := List.getElem?_eq_getElem (by omega)
  obtain ⟨r, hr, t, e, ht⟩ := pr_get hp hx
  obtain ⟨u, hu, ru⟩ := rv.get hx
  rw [h] at hu
  cases hu
  rw [e] at ru
  have ev : v = Value.ref t := ru
  obtain ⟨_, its2, r2, tp⟩ := I.hok _ _ ht
  cases r2 with
  | cons a1 r2 => cases r2 with
    | cons a2 r2 => cases r2 with
      | cons a3 r2 =>
        cases r2
        obtain ⟨t1, rfl⟩ := a1
        obtain ⟨t2, rfl⟩ := a2
        obtain ⟨t3, rfl⟩ := a3
        exact ⟨r, t, t1, t2, t3, hr, ev, tp.lt, tp⟩
theorem gen_rows {c P : Addr} {elt iter : Expr} {x y z : Str} {p1 p2 p3 pt gpos : Pos} {kt : Nat} {scope : Scope} {f : Rw.Row → Int} {te : TE} {k : Nat} {Q' : Value → Shared → Prop} {R : List Rw.Row → Hp → Prop}
    (hr : Room k X.A) (TB : TabB X.base X.mg c P) (hcode : X.env.code = .ref c) (S : Sc3 X.env scope x y z) (nxy : x ≠ y) (nxz : x ≠ z) (nyz : y ≠ z) (hi : PE X iter te) (hel : EltR X.prog X.w scope x y z elt f)
    (hs : ∀ v, genFold iter X.env v = pure v) (I : Inv X pins σ H s) (h : te σ H fun v H1 => ∃ a xs rows, v = .ref a ∧ H1 a = some (.lst xs) ∧ Paired (kRow.is H1) xs rows ∧ TabG H1 P ∧ R rows H1)
    (hQ : ∀ rows H1 g s5, R rows H1 → ReadyR X pins σ H1 P rows f g s5 → Q' (.ref g) s5) :
    wpAny (model X.prog X.w) X.A (eval (.GeneratorExp elt [⟨.Tuple [.Name x p1, .Name y p2, .Name z p3] kt pt, iter, [], 0⟩] scope gpos) X.env) Q' X.xe s := by
  refine gx_eval hr.hd S.co (closure_ok S.free) S.cell S.dot S.kind (by have := hr.dp; omega) ?_ hs
  refine thn (hi.run pins s σ H _ I h) fun xv s1 ⟨v, H1, I1, r1, q1⟩ => ?_
  obtain ⟨a, xs, rows, rfl, ha, hp, ⟨ps, hP, ht⟩, q1⟩ := q1
  cases r1
  obtain ⟨its, rv, pl, hz⟩ := I1.list (SqL.of ha)
  refine iter_any pl.isList fun s2 e2 st hne => ?_
  subst e2
  have hPs : s1.heap.get? P = some { cls := .none, data := .fields ps } := I1.hok P _ hP
  have hPlt : P < s1.heap.objs.size := Heap.lt_size hPs
  have haP : a ≠ P := ne_of ha hP (by intro q; cases q)
  generalize hit : ({ cls := .type "list_iterator", data := .fields #[.ref a, .int 0 0] } : Obj) = ob at st ⊢
  have hP2 : (s1.heap.push ob).get? P = some { cls := .none, data := .fields ps } := Heap.get?_push_of_some _ hPs
  have cd : PySem.W.CodeHd (s1.heap.push ob) c P := TB.code.keeps fun b u e => Heap.get?_push_of_some _ (I1.bk b u e)
  have lim2 : (s1.heap.push ob).NoLimit := I1.nolimit.push ob
  have sz2 : (s1.heap.push ob).objs.size = s1.heap.objs.size + 1 := Heap.size_push ..
  have lenI : its.length = rows.length := by rw [← rv.length, pr_len hp]
  have cont : ∀ (code : Value) (h3 : Heap) (tk : Nat) (ps' : Array Value), Heap.ExtBut P (s1.heap.push ob) h3 → (s1.heap.push ob).objs.size ≤ h3.objs.size → h3.get? P = some { cls := .none, data := .fields ps' } → (∃ more, ps' = ps ++ more) → TriplesOk ps'.toList →
      wpAny (model X.prog X.w) X.A (builtinsFor X.env.globals X.env.builtins) (fun bi s4 => Src X.prog X.w X.A X.env scope (cloFrom X.env.cells scope.names []) (.Tuple [.Name x p1, .Name y p2, .Name z p3] kt pt) elt code bi (.ref s1.heap.objs.size) Q' s4) X.xe { s1 with heap := h3, toks := tk } := by
    intro code h3 tk ps' hx hsz hP3 hmore ht3
    obtain ⟨bm, obm, e1, e2, e3, e4, e5, e6, e7, e8⟩ := TB.bm
    have hcP : cStatics ≠ P := fun e => by
      obtain ⟨_, hns, _⟩ := I1.nolimit
      obtain ⟨o', es, ep, ho, hd, _⟩ := hns
      rw [e, hPs] at ho
      cases ho
      cases hd
    have hcl : cStatics < s1.heap.objs.size := let ⟨_, hns, _⟩ := I1.nolimit; hns.lt
    have keep3 : ∀ b u, b ≠ P → s1.heap.get? b = some u → h3.get? b = some u := fun b u hb e => hx b u hb (Heap.get?_push_of_some _ e)
    refine wpAny_builtinsFor (m := X.mg) (by rw [I1.ok.glob]; exact ((I1.mod.glob.keeps I1.bk).push ob).extBut hx TB.gP) e1 e2 (keep3 _ _ e4 (I1.bk _ _ e5)) e6 e7 e8 ?_
    have WL := fun (B : Around) (hB : B.handled = none) => Walks.list (prog := X.prog) (w := X.w) (A := B) hB s1.heap.objs.size a hne its.toArray
    have hL : its.toArray.size = rows.length := by rw [List.size_toArray, lenI]
    refine ⟨s1.heap.objs.size, _, _, its.toArray.size, _, (fun i v => ∃ r t, rows[i]? = some r ∧ v = .int (f r) t), _, rfl, WL, ?_, ?_, ?_, lim2.extBut hx hcP, ?_, ?_, ?_⟩
    · intro B i v t Q1 E1 hst hq
      obtain ⟨oi, e, cc, dd⟩ := hst.1
      exact go_of e cc dd (by decide) hq
    · refine (WL X.A hr.hd).frame _ _ _ st fun b hb u e => hx b u (fun q => ?_) e
      rcases List.mem_cons.mp hb with z2 | z2
      · exact Nat.ne_of_lt hPlt (q.symm.trans z2)
      · rcases List.mem_cons.mp z2 with z3 | z3
        · exact haP (z3.symm.trans q)
        · cases z3
    · intro b hb
      rcases List.mem_cons.mp hb with q | q
      · rw [q]
        show s1.heap.objs.size < h3.objs.size
        omega
      · rcases List.mem_cons.mp q with q | q
        · rw [q]
          have h13 : s1.heap.objs.size < h3.objs.size := by omega
          exact Nat.lt_trans (Heap.lt_size pl.isList.choose_spec.1) h13
        · cases q
    · intro q
      rcases List.mem_cons.mp q with q | q
      · exact Nat.ne_of_lt hcl q
      · cases q
    · intro href hhref
      have hsc : (genEnv scope (cloFrom X.env.cells scope.names []) h3.objs.size code builtinsNs X.env).scope = scope := rfl
      have tk3 := turn3 (p1 := p1) (p2 := p2) (p3 := p3) (pt := pt) (kt := kt) (ce := genEnv scope (cloFrom X.env.cells scope.names []) h3.objs.size code builtinsNs X.env) (scope := scope) (h0 := href) (fp := List.range h3.objs.size) (wr := [s1.heap.objs.size]) (rows := rows) S.kind hsc S.lx S.ly S.lz nxy nxz nyz hel (its := its) fun i v hiv => ?_
      · exact fun B E' i v s m hB hv => tk3 B E' i v s m hB (by simpa using hv)
      obtain ⟨r, t, t1, t2, t3, q1, q2, q3, q4⟩ := row_at I1 hp rv hiv
      have tP : t ≠ P := fun e => by
        obtain ⟨o, ho, hc, _⟩ := q4
        rw [e, hPs] at ho
        cases ho
        cases hc
      refine ⟨r, t, t1, t2, t3, q1, q2, List.mem_range.mpr (Nat.lt_trans q3 (show s1.heap.objs.size < h3.objs.size by omega)), fun q => ?_, ?_⟩
      · rcases List.mem_cons.mp q with q | q
        · exact Nat.ne_of_lt q3 q
        · cases q
      · obtain ⟨o, ho, r⟩ := q4
        exact ⟨o, hhref _ _ (keep3 _ _ tP ho), r⟩
    · intro g h5 tk5 gs hgb hag hsz5 hk5 W5 hat
      simp only [passing_all, List.length_range] at W5
      rw [hL] at W5 hat
      refine hQ rows H1 g _ q1 ⟨_, _, _, _, _, W5.in4_1, hat, ?_, ?_, fun s' hm => ?_⟩
      · intro b hb
        show b < h5.objs.size
        rw [hsz5]
        rcases List.mem_cons.mp hb with q | q
        · rw [q]; exact Nat.lt_succ_self _
        · rcases List.mem_cons.mp q with q | q
          · rw [q]
            exact Nat.lt_succ_of_lt hag
          · exact Nat.lt_succ_of_lt (Nat.lt_trans (List.mem_range.mp q) hag)
      · intro j v hj
        obtain ⟨i, hij, r, t, hr', ev⟩ := hj
        obtain ⟨hj', ej⟩ := List.getElem?_eq_some_iff.mp hij
        rw [List.getElem_range] at ej
        subst ej
        exact ⟨r, t, hr', ev⟩
      · obtain ⟨more, em⟩ := hmore
        have nwr : ∀ b u, s1.heap.get? b = some u → b ∉ h3.objs.size :: [s1.heap.objs.size] := fun b u e hb => by
          have hl := Heap.lt_size e
          rcases List.mem_cons.mp hb with q | q
          · rw [q] at hl
            have h9 : (h3.objs.size : Nat) < s1.heap.objs.size := hl
            omega
          · rcases List.mem_cons.mp q with q | q
            · rw [q] at hl
              exact Nat.lt_irrefl _ hl
            · cases q
        have J := inv_tab (more := more) (h' := s'.heap) (g' := s'.gens) (d' := s'.drawn) (t' := s'.toks) I1 hP (fun b u hb e => hm.heap b u (nwr b u e) (hk5 b u (keep3 b u hb e)))
          (by rw [← em]; exact hm.heap P _ (nwr P _ hPs) (hk5 P _ hP3)) (AllBare.movedS (I1.bare.push hgb) hm)
        rw [sh_eta s1 s' hm.os] at J
        exact ⟨upd H1 P (.tbl (ps ++ more)), ⟨⟨ps ++ more, upd_same, by rw [← em]; exact ht3⟩, fun b hb => upd_ne hb⟩, J⟩
  refine ⟨lim2, ?_⟩
  cases hf : codeAmong gpos ps.toList with
  | none =>
    refine wpAny_genexprCodeX hcode (cd.code hP2 ht) (cd.tab hP2) hf fun c' h' tk hx hge hlt hco' _ htab' _ => ?_
    obtain ⟨o1, vs, f1, tf, fl, tg, inF, tx, tt, op, _, _, _, _, _, _, _, _, _, htr, _⟩ := hco'
    exact cont _ h' tk _ hx (Nat.le_trans hge (Nat.le_of_lt hlt)) htab'.2 ⟨_, rfl⟩ htr
  | some cv =>
    refine wpAny_genexprCode_hit hcode (cd.code hP2 ht) hf ?_
    exact cont cv (s1.heap.push ob) s1.toks ps (Heap.ExtBut.refl _ _) (Nat.le_refl _) hP2 ⟨#[], by simp⟩ ht
end
end Gx
set_option maxHeartbeats 2000000
namespace Gx
open PySem PySem.Spec PyProof.Rows L2 GxR Rw
def sumBy (f : Rw.Row → Int) : List Rw.Row → Int
  | [] => 0
  | r :: rs => f r + sumBy f rs
theorem sumBy_append (f : Rw.Row → Int) : ∀ xs ys : List Rw.Row, sumBy f (xs ++ ys) = sumBy f xs + sumBy f ys
  | [], ys => by simp [sumBy]
  | x :: xs, ys => by
    show f x + sumBy f (xs ++ ys) = f x + sumBy f xs + sumBy f ys
    rw [sumBy_append f xs ys]; omega
def valAt (f : Rw.Row → Int) (rows : List Rw.Row) (i : Nat) : Int := match rows[i]? with
  | some r => f r
  | none => 0
theorem preSum_rows (f : Rw.Row → Int) (rows : List Rw.Row) : ∀ n, n ≤ rows.length → preSum (valAt f rows) n = sumBy f (rows.take n)
  | 0, _ => rfl
  | n + 1, h => by
    have ih := preSum_rows f rows n (Nat.le_of_lt h)
    have hn : n < rows.length := h
    have e : rows.take (n + 1) = rows.take n ++ [rows[n]] := by rw [List.take_add_one, List.getElem?_eq_getElem hn]; rfl
    have ev : valAt f rows n = f rows[n] := by unfold valAt; rw [List.getElem?_eq_getElem hn]
    rw [e, sumBy_append, ← ih]
    show preSum (valAt f rows) n + valAt f rows n = _ + (f rows[n] + 0)
    rw [ev]; omega
def tSumR (P : Addr) (f : Rw.Row → Int) (te : TE) : TE := fun σ H Q => te σ H fun v H1 => ∃ a xs rows, v = .ref a ∧ H1 a = some (.lst xs) ∧ Paired (kRow.is H1) xs rows ∧ TabG H1 P ∧ ∀ H2, Tabbed P H1 H2 → Q (.int (sumBy f rows)) H2
theorem pe_sumR {X : Cx} {c P : Addr} {elt iter : Expr} {x y z : Str} {p1 p2 p3 pt gpos p pos : Pos} {kt : Nat} {scope : Scope} {f : Rw.Row → Int} {te : TE} {k : Nat}
    (hr : Room k X.A) (hg : Gl X "sum") (hm : X.mg "sum" = none) (TB : TabB X.base X.mg c P) (hcode : X.env.code = .ref c) (S : Sc3 X.env scope x y z) (nxy : x ≠ y) (nxz : x ≠ z) (nyz : y ≠ z) (hi : PE X iter te) (hel : EltR X.prog X.w scope x y z elt f)
    (hs : ∀ v, genFold iter X.env v = pure v) (hb : bootBuiltins "sum" = some (.builtin "sum"))
    (he : starEach [.GeneratorExp elt [⟨.Tuple [.Name x p1, .Name y p2, .Name z p3] kt pt, iter, [], 0⟩] scope gpos] X.env = (false, eval (.GeneratorExp elt [⟨.Tuple [.Name x p1, .Name y p2, .Name z p3] kt pt, iter, [], 0⟩] scope gpos) X.env) :: starEach [] X.env := by rfl) :
    PE X (.Call (.Name "sum" p) [.GeneratorExp elt [⟨.Tuple [.Name x p1, .Name y p2, .Name z p3] kt pt, iter, [], 0⟩] scope gpos] [] pos) (tSumR P f te) := by
  refine ⟨fun pins s σ H Q I h => ?_⟩
  refine wpAny_Call_Name_kw (ld_blt I hg hm hb ?_)
  refine PyProof.Rows.callWith_builtin1 ?_ he (by rfl)
  rw [he]
  show wpAny _ _ (spliced ((false, eval (.GeneratorExp elt [⟨.Tuple [.Name x p1, .Name y p2, .Name z p3] kt pt, iter, [], 0⟩] scope gpos) X.env) :: backTo pos (starEach [] X.env))) _ _ s
  refine Calls.spliced_cons (gen_rows (R := fun rows H1 => ∀ H2, Tabbed P H1 H2 → Q (.int (sumBy f rows)) H2) hr TB hcode S nxy nxz nyz hi hel hs I h fun rows H1 g s5 hR hG => ?_)
  obtain ⟨fp, wr, G, F, St, W, hst, hfp, hval, hI⟩ := hG
  refine Calls.spliced_nil ?_
  refine call_sum_walkAnyS (W.self 0 _ _ _ hst ⟨g, fp, wr, G, _, F, St, valAt f rows, rfl, W, hst, hfp, fun j v hj => ?_, fun s' t' hmv => ?_⟩)
  · obtain ⟨r, t, hr', e⟩ := hval j v hj
    exact ⟨t, by rw [e]; unfold valAt; rw [hr']⟩
  · obtain ⟨H2, hT, J⟩ := hI s' hmv
    refine ⟨.int (sumBy f rows), H2, J, ⟨t', ?_⟩, hR H2 hT⟩
    rw [preSum_rows f rows rows.length (Nat.le_refl _), List.take_length]
end Gx
namespace Rw
open PySem L2
open GxR (TabB TabG Tabbed)
def width (r : Row) : Int := r.2.2 - r.2.1 + 1
/-- a def whose code object stands at c -/
structure FunC (K : PySem.W.Frag) (x qual : Str) (st : Stmt) (f c : Addr) (fd : FuncData) : Prop where
  ex : ∃ (oc : Value) (od : Option Addr) (kV doc pm : Value) (an : Option Addr) (ct : Value) (osl : Array (Option Value)),
    fd = PySem.W.fnOf x qual (defArgs st) (defBody st) (defScope st) .none kV doc pm an (.ref c) ct ∧ K.lookup f = some ⟨oc, od, .func fd, osl⟩ ∧ PySem.W.codeIn K (.ref c) qual = true
section
variable {P : Program} {w : World} {K : PySem.W.Frag} {mg : Str → Option Value} {base : Heap}
theorem FunC.ok {x qual : Str} {st : Stmt} {f c : Addr} {fd : FuncData} {N ps : List Str} {k : Nat} {sp : Sp} (F : FunC K x qual st f c fd) (S : FnScope N ps (defScope st)) (len : ∀ vs H Q E, sp vs H Q E → vs.length = ps.length)
    (walk : ∀ (A : Around) (outer : List Env) (s : Shared) (H : Hp) (vs : List V) (Q : VK) (E : XK), Room k (A.deeper (PyProof.Rows.envOfC qual (defScope st) s.heap.objs.size f (.ref c))) → sp vs H Q E →
      ∃ t, PSs (cxOf CX0 P w K mg base N qual (defScope st) f (.ref c) A outer s H E).nox (defBody st) t ∧ t { nx := fun _ H' => Q .non H', rt := Q } (start N vs) H) : FnOk P w K mg base CX0 (k + 1) f fd ps sp := by
  obtain ⟨oc, od, kV, doc, pm, an, ct, osl, rfl, lk, hcd⟩ := F.ex
  refine fn_of lk hcd S len fun A outer s H vs Q E hr h => ?_
  obtain ⟨t, p, q⟩ := walk A outer s H vs Q E hr h
  exact ⟨t, p.nox, q⟩
theorem elt_width {prog : Program} {scope : Scope} {x y z : Str} {p1 p2 p3 p4 p5 : Pos} {j : Nat} (hk : scope.kind = .function) (ly : scope.names.lookup y = some .local) (lz : scope.names.lookup z = some .local)
    (dy : (y == ("__debug__" : Str)) = false := by decide) (dz : (z == ("__debug__" : Str)) = false := by decide) :
    Gx.EltR prog w scope x y z (.BinOp (.BinOp (.Name z p1) .Sub (.Name y p2) p3) .Add (.Constant (.int 1) j p4) p5) width := by
  intro ce B E' r t1 t2 t3 s m hs hn hx hy hz
  have kf : ce.scope.kind = .function := by rw [hs]; exact hk
  have ky : ce.kindOf y = some .local := by show ce.scope.names.lookup y = some .local; rw [hs]; exact ly
  have kz : ce.kindOf z = some .local := by show ce.scope.names.lookup z = some .local; rw [hs]; exact lz
  refine wpAny_BinOp (wpAny_BinOp (wpAny_Name (wpAny_loadName_local kf kz hn hz ?_) dz))
  refine wpAny_Name (wpAny_loadName_local kf ky hn hy ?_) dy
  refine PyProof.Rows.sub_int ?_
  refine wpAny_Constant_int ?_
  refine PyProof.Rows.add_int ⟨⟨_, rfl⟩, s.heap, _, rfl, fun _ _ e => e⟩
def spAmount (Pt' : Addr) : Sp := fun vs H Q _ => ∃ (F : Hp) (v : V) (rs : List Row), vs = [v] ∧ Same F H ∧ (kL kRow).is F v rs ∧ RowsOk rs ∧ TabG H Pt' ∧ F Pt' = none ∧
  ∀ (out : List Row) (F' H' : Hp), Fewest rs out → Ext (· = Pt') F H F' H' → TabG H' Pt' → Q (.int (Gx.sumBy width out)) H'
end
end Rw
set_option maxHeartbeats 2000000
namespace Gx
open PySem PySem.Spec PyProof.Rows L2 GxR Rw
/-! ### any of a generator expression over rows, two captured ints -/
def EltV (prog : Program) (w : World) (scope : Scope) (x y z u1 u2 : Str) (a1 a2 : Int) (elt : Expr) (pb : Rw.Row → Bool) : Prop :=
  ∀ (ce : Env) (B : Around) (E' : Value → Shared → Prop) (r : Rw.Row) (t1 t2 t3 : Tok) (s : Shared) (m : Str → Option Value), ce.scope.kind = .function → ce.scope = scope → (∃ c t, ce.cells.lookup u1 = some c ∧ s.heap.IsCell c (some (.int a1 t))) → (∃ c t, ce.cells.lookup u2 = some c ∧ s.heap.IsCell c (some (.int a2 t))) →
    s.heap.Ns ce.locals m → m x = some (.int r.1 t1) → m y = some (.int r.2.1 t2) → m z = some (.int r.2.2 t3) → wpAny (model prog w) B (eval elt ce) (fun v u => v = .bool (pb r) ∧ Keeps s u) E' s
/-- a name of the def that the generator's scope takes along -/
structure Cap (X : Cx) (scope : Scope) (u : Str) (i : Nat) : Prop where
  slot : X.N[i]? = some u
  vis : Vis X.env.scope u
  cell : X.env.kindOf u = some .cell
  free : (u, NameKind.free) ∈ scope.names
  all : ∀ q ∈ scope.names, q.2 = .free → ∃ c, X.env.cells.lookup q.1 = some c
section
variable {X : Cx} {pins : List (Addr × Obj)} {σ : L2.St} {H : Hp} {s : Shared}
theorem Cap.at {scope : Scope} {u : Str} {i : Nat} {a : Int} (C : Cap X scope u i) (I : Inv X pins σ H s) (v : σ[i]? = some (some (.int a))) : ∃ c t, (cloFrom X.env.cells scope.names []).lookup u = some c ∧ s.heap.IsCell c (some (.int a t)) := by
  obtain ⟨m, _, L⟩ := I.loc
  obtain ⟨w, rw', lk⟩ := L i u _ C.slot v C.vis
  obtain ⟨t, rfl⟩ := rw'
  rcases lk with ⟨k, _⟩ | ⟨_, c, e, hc⟩
  · rw [C.cell] at k; cases k
  · exact ⟨c, t, NdefX.clo_has C.all C.free e, hc⟩
def ReadyV (X : Cx) (pins : List (Addr × Obj)) (σ : L2.St) (H1 : Hp) (P : Addr) (rows : List Rw.Row) (pb : Rw.Row → Bool) (g : Addr) (s5 : Shared) : Prop :=
  ∃ (fp wr : List Addr) (G : Array GenState → Array GenState → Prop) (F : Nat → Value → Prop) (St : Nat → Shared → Prop), WalksS X.prog X.w X.A.in1 g fp wr G rows.length F St ∧ St 0 s5 ∧ (∀ b ∈ fp, b < s5.heap.objs.size) ∧
    (∀ j v, F j v → ∃ r, rows[j]? = some r ∧ v = .bool (pb r)) ∧ ∀ s', Moved wr G s5 s' → ∃ H2, Tabbed P H1 H2 ∧ Inv X pins σ H2 s'
theorem turn3v {prog : Program} {w : World} {ce : Env} {scope : Scope} {x y z : Str} {p1 p2 p3 pt : Pos} {kt : Nat} {elt : Expr} {u1 u2 : Str} {pb : Rw.Row → Bool} {a1 a2 : Int} {fp wr : List Addr} {its : List Value} {rows : List Rw.Row} {h0 : Heap}
    (hk : ce.scope.kind = .function) (hs : ce.scope = scope) (lx : scope.names.lookup x = some .local) (ly : scope.names.lookup y = some .local) (lz : scope.names.lookup z = some .local) (nxy : x ≠ y) (nxz : x ≠ z) (nyz : y ≠ z)
    (hel : EltV prog w scope x y z u1 u2 a1 a2 elt pb) (cap1 : ∃ c t, ce.cells.lookup u1 = some c ∧ h0.IsCell c (some (.int a1 t)) ∧ c ∈ fp ∧ c ∉ wr ∧ c ≠ ce.locals) (cap2 : ∃ c t, ce.cells.lookup u2 = some c ∧ h0.IsCell c (some (.int a2 t)) ∧ c ∈ fp ∧ c ∉ wr ∧ c ≠ ce.locals)
    (hv : ∀ (i : Nat) (v : Value), its[i]? = some v → ∃ (r : Rw.Row) (t : Addr) (t1 t2 t3 : Tok), rows[i]? = some r ∧ v = .ref t ∧ t ∈ fp ∧ t ∉ wr ∧ IsTup h0 t #[.int r.1 t1, .int r.2.1 t2, .int r.2.2 t3]) :
    TurnOk prog w ce (.Tuple [.Name x p1, .Name y p2, .Name z p3] kt pt) elt fp wr (fun i v => its[i]? = some v) (fun i v => ∃ r, rows[i]? = some r ∧ v = .bool (pb r)) h0 := by
  intro B E' i v s m hB hiv hn keep
  obtain ⟨r, t, t1, t2, t3, hr, rfl, tf, tw, o, ho, hc, n, hd⟩ := hv i v hiv
  have ht : IsTup s.heap t #[.int r.1 t1, .int r.2.1 t2, .int r.2.2 t3] := ⟨o, keep t tf tw o ho, hc, n, hd⟩
  have hp : (ce.scope.kind == .class || (ce.scope.kind == .module && ce.locals != ce.globals)) = false := by rw [hk]; rfl
  have kx : ce.kindOf x = some .local := by show ce.scope.names.lookup x = some .local; rw [hs]; exact lx
  have ky : ce.kindOf y = some .local := by show ce.scope.names.lookup y = some .local; rw [hs]; exact ly
  have kz : ce.kindOf z = some .local := by show ce.scope.names.lookup z = some .local; rw [hs]; exact lz
  have hl : ce.locals < s.heap.objs.size := hn.lt
  refine assign_Tuple_tuple hB ht rfl rfl fun h1 x1 => ?_
  show wpAny (model prog w) B (assignInOrder [assign (.Name x p1) ce, assign (.Name y p2) ce, assign (.Name z p3) ce] [.int r.1 t1, .int r.2.1 t2, .int r.2.2 t3]) _ _ _
  have n1 : h1.Ns ce.locals m := hn.at' fun o e => x1 _ o (Nat.ne_of_lt hl) e
  refine assignInOrder_cons (wpAny_assign_Name (wpAny_storeName_local kx n1 (fun h2 n2 b2 => ?_) hp))
  refine assignInOrder_cons (wpAny_assign_Name (wpAny_storeName_local ky n2 (fun h3 n3 b3 => ?_) hp))
  refine assignInOrder_cons (wpAny_assign_Name (wpAny_storeName_local kz n3 (fun h4 n4 b4 => ?_) hp))
  refine assignInOrder_nil ⟨h4, _, _, rfl, fun b o nb e => ?_, n4, fun E2 => ?_⟩
  · exact b4.extBut b o nb (b3.extBut b o nb (b2.extBut b o nb (x1 b o (Nat.ne_of_lt (Heap.lt_size e)) e)))
  · have kept : ∀ {u : Str} {a : Int}, (∃ c t, ce.cells.lookup u = some c ∧ h0.IsCell c (some (.int a t)) ∧ c ∈ fp ∧ c ∉ wr ∧ c ≠ ce.locals) → ∃ c t, ce.cells.lookup u = some c ∧ h4.IsCell c (some (.int a t)) := fun ⟨c, tc, e1, ⟨oc, e2, e3⟩, e4, e5, e6⟩ => by
      have z1 := keep c e4 e5 oc e2
      exact ⟨c, tc, e1, oc, b4.extBut c oc e6 (b3.extBut c oc e6 (b2.extBut c oc e6 (x1 c oc (Nat.ne_of_lt (Heap.lt_size z1)) z1))), e3⟩
    refine wpAny_mono (hel ce B E2 r t1 t2 t3 _ _ hk hs (kept cap1) (kept cap2) n4 ?_ ?_ ?_) (fun u s5 q => ⟨?_, q.2⟩) fun _ _ e => e
    · simp only [if_neg nxz, if_neg nxy, if_pos]
    · simp only [if_neg nyz, if_pos]
    · simp only [if_pos]
    · exact ⟨r, hr, q.1⟩
theorem gen_rowsV {c P : Addr} {elt iter : Expr} {x y z : Str} {p1 p2 p3 pt gpos : Pos} {kt : Nat} {scope : Scope} {u1 u2 : Str} {i1 i2 : Nat} {pb : Int → Int → Rw.Row → Bool} {te : TE} {k : Nat} {Q' : Value → Shared → Prop} {R : Int → Int → List Rw.Row → Hp → Prop}
    (hr : Room k X.A) (TB : TabB X.base X.mg c P) (hcode : X.env.code = .ref c) (S : Sc3 X.env scope x y z) (nxy : x ≠ y) (nxz : x ≠ z) (nyz : y ≠ z) (hi : PE X iter te) (hel : ∀ a1 a2, EltV X.prog X.w scope x y z u1 u2 a1 a2 elt (pb a1 a2)) (C1 : Cap X scope u1 i1) (C2 : Cap X scope u2 i2)
    (hs : ∀ v, genFold iter X.env v = pure v) (I : Inv X pins σ H s) (h : te σ H fun v H1 => ∃ a xs rows a1 a2, v = .ref a ∧ H1 a = some (.lst xs) ∧ Paired (kRow.is H1) xs rows ∧ TabG H1 P ∧ σ[i1]? = some (some (.int a1)) ∧ σ[i2]? = some (some (.int a2)) ∧ R a1 a2 rows H1)
    (hQ : ∀ a1 a2 rows H1 g s5, R a1 a2 rows H1 → ReadyV X pins σ H1 P rows (pb a1 a2) g s5 → Q' (.ref g) s5) :
    wpAny (model X.prog X.w) X.A (eval (.GeneratorExp elt [⟨.Tuple [.Name x p1, .Name y p2, .Name z p3] kt pt, iter, [], 0⟩] scope gpos) X.env) Q' X.xe s := by
  refine gx_eval hr.hd S.co (closure_ok S.free) S.cell S.dot S.kind (by have := hr.dp; omega) ?_ hs
  refine thn (hi.run pins s σ H _ I h) fun xv s1 ⟨v, H1, I1, r1, q1⟩ => ?_
  obtain ⟨a, xs, rows, a1, a2, rfl, ha, hp, ⟨ps, hP, ht⟩, v1, v2, q1⟩ := q1
  have cell1 := C1.at I1 v1
  have cell2 := C2.at I1 v2
  cases r1
  obtain ⟨its, rv, pl, hz⟩ := I1.list (SqL.of ha)
  refine iter_any pl.isList fun s2 e2 st hne => ?_
  subst e2
  have hPs : s1.heap.get? P = some { cls := .none, data := .fields ps } := I1.hok P _ hP
  have hPlt : P < s1.heap.objs.size := Heap.lt_size hPs
  have haP : a ≠ P := ne_of ha hP (by intro q; cases q)
  generalize hit : ({ cls := .type "list_iterator", data := .fields #[.ref a, .int 0 0] } : Obj) = ob at st ⊢
  have hP2 : (s1.heap.push ob).get? P = some { cls := .none, data := .fields ps } := Heap.get?_push_of_some _ hPs
  have cd : PySem.W.CodeHd (s1.heap.push ob) c P := TB.code.keeps fun b u e => Heap.get?_push_of_some _ (I1.bk b u e)
  have lim2 : (s1.heap.push ob).NoLimit := I1.nolimit.push ob
  have sz2 : (s1.heap.push ob).objs.size = s1.heap.objs.size + 1 := Heap.size_push ..
  have lenI : its.length = rows.length := by rw [← rv.length, pr_len hp]
  have cont : ∀ (code : Value) (h3 : Heap) (tk : Nat) (ps' : Array Value), Heap.ExtBut P (s1.heap.push ob) h3 → (s1.heap.push ob).objs.size ≤ h3.objs.size → h3.get? P = some { cls := .none, data := .fields ps' } → (∃ more, ps' = ps ++ more) → TriplesOk ps'.toList →
      wpAny (model X.prog X.w) X.A (builtinsFor X.env.globals X.env.builtins) (fun bi s4 => Src X.prog X.w X.A X.env scope (cloFrom X.env.cells scope.names []) (.Tuple [.Name x p1, .Name y p2, .Name z p3] kt pt) elt code bi (.ref s1.heap.objs.size) Q' s4) X.xe { s1 with heap := h3, toks := tk } := by
    intro code h3 tk ps' hx hsz hP3 hmore ht3
    obtain ⟨bm, obm, e1, e2, e3, e4, e5, e6, e7, e8⟩ := TB.bm
    have hcP : cStatics ≠ P := fun e => by
      obtain ⟨_, hns, _⟩ := I1.nolimit
      obtain ⟨o', es, ep, ho, hd, _⟩ := hns
      rw [e, hPs] at ho
      cases ho
      cases hd
    have hcl : cStatics < s1.heap.objs.size := let ⟨_, hns, _⟩ := I1.nolimit; hns.lt
    have keep3 : ∀ b u, b ≠ P → s1.heap.get? b = some u → h3.get? b = some u := fun b u hb e => hx b u hb (Heap.get?_push_of_some _ e)
    refine wpAny_builtinsFor (m := X.mg) (by rw [I1.ok.glob]; exact ((I1.mod.glob.keeps I1.bk).push ob).extBut hx TB.gP) e1 e2 (keep3 _ _ e4 (I1.bk _ _ e5)) e6 e7 e8 ?_
    have WL := fun (B : Around) (hB : B.handled = none) => Walks.list (prog := X.prog) (w := X.w) (A := B) hB s1.heap.objs.size a hne its.toArray
    have hL : its.toArray.size = rows.length := by rw [List.size_toArray, lenI]
    refine ⟨s1.heap.objs.size, _, _, its.toArray.size, _, (fun i v => ∃ r, rows[i]? = some r ∧ v = .bool (pb a1 a2 r)), _, rfl, WL, ?_, ?_, ?_, lim2.extBut hx hcP, ?_, ?_, ?_⟩
    · intro B i v t Q1 E1 hst hq
      obtain ⟨oi, e, cc, dd⟩ := hst.1
      exact go_of e cc dd (by decide) hq
    · refine (WL X.A hr.hd).frame _ _ _ st fun b hb u e => hx b u (fun q => ?_) e
      rcases List.mem_cons.mp hb with z2 | z2
      · exact Nat.ne_of_lt hPlt (q.symm.trans z2)
      · rcases List.mem_cons.mp z2 with z3 | z3
        · exact haP (z3.symm.trans q)
        · cases z3
    · intro b hb
      rcases List.mem_cons.mp hb with q | q
      · rw [q]
        show s1.heap.objs.size < h3.objs.size
        omega
      · rcases List.mem_cons.mp q with q | q
        · rw [q]
          have h13 : s1.heap.objs.size < h3.objs.size := by omega
          exact Nat.lt_trans (Heap.lt_size pl.isList.choose_spec.1) h13
        · cases q
    · intro q
      rcases List.mem_cons.mp q with q | q
      · exact Nat.ne_of_lt hcl q
      · cases q
    · intro href hhref
      have hsc : (genEnv scope (cloFrom X.env.cells scope.names []) h3.objs.size code builtinsNs X.env).scope = scope := rfl
      have capAt : ∀ {u : Str} {b : Int}, (∃ c t, (cloFrom X.env.cells scope.names []).lookup u = some c ∧ s1.heap.IsCell c (some (.int b t))) → ∃ c t, (genEnv scope (cloFrom X.env.cells scope.names []) h3.objs.size code builtinsNs X.env).cells.lookup u = some c ∧ href.IsCell c (some (.int b t)) ∧ c ∈ List.range h3.objs.size ∧ c ∉ [s1.heap.objs.size] ∧ c ≠ (genEnv scope (cloFrom X.env.cells scope.names []) h3.objs.size code builtinsNs X.env).locals := fun ⟨c, tc, e1, oc, e2, e3⟩ => by
        have lt := Heap.lt_size e2
        have lt3 : c < h3.objs.size := Nat.lt_trans lt (show s1.heap.objs.size < h3.objs.size by omega)
        have cP : c ≠ P := fun e => by
          rw [e, hPs] at e2
          cases e2
          cases e3
        exact ⟨c, tc, e1, ⟨oc, hhref _ _ (keep3 _ _ cP e2), e3⟩, List.mem_range.mpr lt3, fun q => Nat.ne_of_lt lt (List.mem_singleton.mp q), Nat.ne_of_lt lt3⟩
      have tk3 := turn3v (p1 := p1) (p2 := p2) (p3 := p3) (pt := pt) (kt := kt) (ce := genEnv scope (cloFrom X.env.cells scope.names []) h3.objs.size code builtinsNs X.env) (scope := scope) (h0 := href) (fp := List.range h3.objs.size) (wr := [s1.heap.objs.size]) (rows := rows) S.kind hsc S.lx S.ly S.lz nxy nxz nyz (hel a1 a2) (capAt cell1) (capAt cell2) (its := its) fun i v hiv => ?_
      · exact fun B E' i v s m hB hv => tk3 B E' i v s m hB (by simpa using hv)
      obtain ⟨r, t, t1, t2, t3, q1, q2, q3, q4⟩ := row_at I1 hp rv hiv
      have tP : t ≠ P := fun e => by
        obtain ⟨o, ho, hc, _⟩ := q4
        rw [e, hPs] at ho
        cases ho
        cases hc
      refine ⟨r, t, t1, t2, t3, q1, q2, List.mem_range.mpr (Nat.lt_trans q3 (show s1.heap.objs.size < h3.objs.size by omega)), fun q => ?_, ?_⟩
      · rcases List.mem_cons.mp q with q | q
        · exact Nat.ne_of_lt q3 q
        · cases q
      · obtain ⟨o, ho, r⟩ := q4
        exact ⟨o, hhref _ _ (keep3 _ _ tP ho), r⟩
    · intro g h5 tk5 gs hgb hag hsz5 hk5 W5 hat
      simp only [passing_all, List.length_range] at W5
      rw [hL] at W5 hat
      refine hQ a1 a2 rows H1 g _ q1 ⟨_, _, _, _, _, W5.in4_1, hat, ?_, ?_, fun s' hm => ?_⟩
      · intro b hb
        show b < h5.objs.size
        rw [hsz5]
        rcases List.mem_cons.mp hb with q | q
        · rw [q]; exact Nat.lt_succ_self _
        · rcases List.mem_cons.mp q with q | q
          · rw [q]
            exact Nat.lt_succ_of_lt hag
          · exact Nat.lt_succ_of_lt (Nat.lt_trans (List.mem_range.mp q) hag)
      · intro j v hj
        obtain ⟨i, hij, r, hr', ev⟩ := hj
        obtain ⟨hj', ej⟩ := List.getElem?_eq_some_iff.mp hij
        rw [List.getElem_range] at ej
        subst ej
        exact ⟨r, hr', ev⟩
      · obtain ⟨more, em⟩ := hmore
        have nwr : ∀ b u, s1.heap.get? b = some u → b ∉ h3.objs.size :: [s1.heap.objs.size] := fun b u e hb => by
          have hl := Heap.lt_size e
          rcases List.mem_cons.mp hb with q | q
          · rw [q] at hl
            have h9 : (h3.objs.size : Nat) < s1.heap.objs.size := hl
            omega
          · rcases List.mem_cons.mp q with q | q
            · rw [q] at hl
              exact Nat.lt_irrefl _ hl
            · cases q
        have J := inv_tab (more := more) (h' := s'.heap) (g' := s'.gens) (d' := s'.drawn) (t' := s'.toks) I1 hP (fun b u hb e => hm.heap b u (nwr b u e) (hk5 b u (keep3 b u hb e)))
          (by rw [← em]; exact hm.heap P _ (nwr P _ hPs) (hk5 P _ hP3)) (AllBare.movedS (I1.bare.push hgb) hm)
        rw [sh_eta s1 s' hm.os] at J
        exact ⟨upd H1 P (.tbl (ps ++ more)), ⟨⟨ps ++ more, upd_same, by rw [← em]; exact ht3⟩, fun b hb => upd_ne hb⟩, J⟩
  refine ⟨lim2, ?_⟩
  cases hf : codeAmong gpos ps.toList with
  | none =>
    refine wpAny_genexprCodeX hcode (cd.code hP2 ht) (cd.tab hP2) hf fun c' h' tk hx hge hlt hco' _ htab' _ => ?_
    obtain ⟨o1, vs, f1, tf, fl, tg, inF, tx, tt, op, _, _, _, _, _, _, _, _, _, htr, _⟩ := hco'
    exact cont _ h' tk _ hx (Nat.le_trans hge (Nat.le_of_lt hlt)) htab'.2 ⟨_, rfl⟩ htr
  | some cv =>
    refine wpAny_genexprCode_hit hcode (cd.code hP2 ht) hf ?_
    exact cont cv (s1.heap.push ob) s1.toks ps (Heap.ExtBut.refl _ _) (Nat.le_refl _) hP2 ⟨#[], by simp⟩ ht

def tAnyR (P : Addr) (i1 i2 : Nat) (pb : Int → Int → Rw.Row → Bool) (te : TE) : TE := fun σ H Q => te σ H fun v H1 => ∃ a xs rows a1 a2, v = .ref a ∧ H1 a = some (.lst xs) ∧ Paired (kRow.is H1) xs rows ∧ TabG H1 P ∧ σ[i1]? = some (some (.int a1)) ∧ σ[i2]? = some (some (.int a2)) ∧ ∀ H2, Tabbed P H1 H2 → Q (.bl (rows.any (pb a1 a2))) H2
theorem any_at (f : Rw.Row → Bool) (rows : List Rw.Row) : (List.range rows.length).any (fun i => match rows[i]? with | some r => f r | none => false) = rows.any f := by
  rw [Bool.eq_iff_iff, List.any_eq_true, List.any_eq_true]
  constructor
  · rintro ⟨i, hi, h⟩
    cases e : rows[i]? with
    | none => rw [e] at h; cases h
    | some r => rw [e] at h; exact ⟨r, List.mem_of_getElem? e, h⟩
  · rintro ⟨r, hr, h⟩
    obtain ⟨i, hi, e⟩ := List.getElem_of_mem hr
    exact ⟨i, List.mem_range.mpr hi, by rw [List.getElem?_eq_getElem hi, e]; exact h⟩
theorem pe_anyR {c P : Addr} {elt iter : Expr} {x y z u1 u2 : Str} {i1 i2 : Nat} {p1 p2 p3 pt gpos p pos : Pos} {kt : Nat} {scope : Scope} {pb : Int → Int → Rw.Row → Bool} {te : TE} {k : Nat}
    (hr : Room k X.A) (hg : Gl X "any") (hm : X.mg "any" = none) (TB : TabB X.base X.mg c P) (hcode : X.env.code = .ref c) (S : Sc3 X.env scope x y z) (nxy : x ≠ y) (nxz : x ≠ z) (nyz : y ≠ z) (hi : PE X iter te) (hel : ∀ a1 a2, EltV X.prog X.w scope x y z u1 u2 a1 a2 elt (pb a1 a2)) (C1 : Cap X scope u1 i1) (C2 : Cap X scope u2 i2)
    (hs : ∀ v, genFold iter X.env v = pure v) (hb : bootBuiltins "any" = some (.builtin "any"))
    (he : starEach [.GeneratorExp elt [⟨.Tuple [.Name x p1, .Name y p2, .Name z p3] kt pt, iter, [], 0⟩] scope gpos] X.env = (false, eval (.GeneratorExp elt [⟨.Tuple [.Name x p1, .Name y p2, .Name z p3] kt pt, iter, [], 0⟩] scope gpos) X.env) :: starEach [] X.env := by rfl) :
    PE X (.Call (.Name "any" p) [.GeneratorExp elt [⟨.Tuple [.Name x p1, .Name y p2, .Name z p3] kt pt, iter, [], 0⟩] scope gpos] [] pos) (tAnyR P i1 i2 pb te) := by
  refine ⟨fun pins s σ H Q I h => ?_⟩
  refine wpAny_Call_Name_kw (ld_blt I hg hm hb (PyProof.Rows.callWith_builtin1 ?_ he (by rfl)))
  rw [he]
  show wpAny _ _ (spliced ((false, eval (.GeneratorExp elt [⟨.Tuple [.Name x p1, .Name y p2, .Name z p3] kt pt, iter, [], 0⟩] scope gpos) X.env) :: backTo pos (starEach [] X.env))) _ _ s
  refine Calls.spliced_cons (gen_rowsV (R := fun a1 a2 rows H1 => ∀ H2, Tabbed P H1 H2 → Q (.bl (rows.any (pb a1 a2))) H2) hr TB hcode S nxy nxz nyz hi hel C1 C2 hs I h fun a1 a2 rows H1 g s5 hR hG => ?_)
  obtain ⟨fp, wr, G, F, St, W, hst, hfp, hval, hI⟩ := hG
  refine Calls.spliced_nil (call_any_walkS (W.self 0 _ _ _ hst ⟨g, fp, wr, G, _, F, St, fun i => match rows[i]? with | some r => pb a1 a2 r | none => false, rfl, W, hst, fun j v s' Q' E' hj hq => ?_, fun s' hmv => ?_⟩))
  · obtain ⟨r, hr', rfl⟩ := hval j v hj
    dsimp only at hq
    rw [hr'] at hq
    exact wpAny_truthy_bool hq
  · obtain ⟨H2, hT, J⟩ := hI s' hmv
    refine ⟨.bl _, H2, J, rfl, ?_⟩
    rw [any_at]
    exact hR H2 hT
end
end Gx
namespace Rw
open PySem L2
open GxR (TabB TabG Tabbed)
def inB (h n : Int) (r : Row) : Bool := decide (r.1 = h) && decide (r.2.1 ≤ n ∧ n ≤ r.2.2)
theorem elt_has {prog : Program} {w : World} {scope : Scope} {x y z u1 u2 : Str} {a1 a2 : Int} {p1 p2 p3 p4 p5 p6 p7 p8 : Pos} (lx : scope.names.lookup x = some .local) (ly : scope.names.lookup y = some .local) (lz : scope.names.lookup z = some .local)
    (l1 : scope.names.lookup u1 = some .free) (l2 : scope.names.lookup u2 = some .free)
    (dx : (x == ("__debug__" : Str)) = false := by decide) (dy : (y == ("__debug__" : Str)) = false := by decide) (dz : (z == ("__debug__" : Str)) = false := by decide) (d1 : (u1 == ("__debug__" : Str)) = false := by decide) (d2 : (u2 == ("__debug__" : Str)) = false := by decide)
    (c1 : (u1 == ("__classdict__" : Str)) = false := by decide) (c2 : (u2 == ("__classdict__" : Str)) = false := by decide) :
    Gx.EltV prog w scope x y z u1 u2 a1 a2 (.BoolOp .And [.Compare (.Name x p1) [.Eq] [.Name u1 p2] p3, .Compare (.Name y p4) [.LtE, .LtE] [.Name u2 p5, .Name z p6] p7] p8) (inB a1 a2) := by
  intro ce B E' r t1 t2 t3 s m hk hs cap1 cap2 hn hx hy hz
  obtain ⟨b1, k1, e1, i1⟩ := cap1
  obtain ⟨b2, k2, e2, i2⟩ := cap2
  have kx : ce.kindOf x = some .local := by show ce.scope.names.lookup x = some .local; rw [hs]; exact lx
  have ky : ce.kindOf y = some .local := by show ce.scope.names.lookup y = some .local; rw [hs]; exact ly
  have kz : ce.kindOf z = some .local := by show ce.scope.names.lookup z = some .local; rw [hs]; exact lz
  have ku1 : ce.kindOf u1 = some .free := by show ce.scope.names.lookup u1 = some .free; rw [hs]; exact l1
  have ku2 : ce.kindOf u2 = some .free := by show ce.scope.names.lookup u2 = some .free; rw [hs]; exact l2
  have keep : ∀ k : Nat, Keeps s { s with toks := k } := fun k => GxR.keeps_tok s k
  refine PyProof.Rows.BoolOp_and (wpAny_Compare1 (wpAny_Name (wpAny_loadName_local hk kx hn hx ?_) dx))
  refine wpAny_Name (wpAny_loadName_free hk ku1 e1 i1 ?_ c1) d1
  refine PyProof.Rows.eq_int (wpAny_truthy_bool ?_)
  by_cases h1 : r.1 = a1
  · rw [if_pos (by simp [h1])]
    refine PyProof.Rows.BoolOp_one (PyProof.Rows.Compare_chain (wpAny_Name (wpAny_loadName_local hk ky hn hy ?_) dy))
    refine PyProof.Rows.chain_link (wpAny_Name (wpAny_loadName_free hk ku2 e2 i2 ?_ c2) d2)
    refine PyProof.Rows.le_int (wpAny_truthy_bool ?_)
    by_cases h2 : r.2.1 ≤ a2
    · rw [if_pos (by simp [h2])]
      refine PyProof.Rows.chain_last (wpAny_Name (wpAny_loadName_local hk kz hn hz ?_) dz)
      refine PyProof.Rows.le_int ⟨?_, GxR.keeps_refl s⟩
      simp [inB, h1, h2]
    · rw [if_neg (by simp [h2])]
      exact ⟨by simp [inB, h1, h2], GxR.keeps_refl s⟩
  · rw [if_neg (by simp [h1])]
    exact ⟨by simp [inB, h1], GxR.keeps_refl s⟩
def spIsIn (Pc : Addr) : Sp := fun vs H Q _ => ∃ (F : Hp) (v : V) (rs : List Row) (h n : Int), vs = [v, .int h, .int n] ∧ Same F H ∧ (kL kRow).is F v rs ∧ TabG H Pc ∧ F Pc = none ∧
  ∀ (b : Bool) (H' : Hp), (b = true ↔ mem rs (h, n)) → Ext (· = Pc) F H F H' → TabG H' Pc → Q (.bl b) H'
def spHas (Pc : Addr) : Sp := fun vs H Q _ => ∃ (F : Hp) (v : V) (rs : List Row) (h n : Int), vs = [v, .int h, .int n] ∧ Same F H ∧ (kL kRow).is F v rs ∧ RowsOk rs ∧ 0 ≤ h ∧ h ≤ 7 ∧ TabG H Pc ∧ F Pc = none ∧
  ∀ (b : Bool) (F' H' : Hp), (b = true ↔ mem rs (h, n)) → Ext (· = Pc) F H F' H' → TabG H' Pc → Q (.bl b) H'
section
variable {P : Program} {w : World} {K : PySem.W.Frag} {mg : Str → Option Value} {base : Heap}
theorem ok_is_in {f c Pc : Addr} {fd : FuncData} (F0 : FunC K "is_in" "is_in" s_is_in f c fd) (TB : TabB base mg c Pc) (hany : mg "any" = none) :
    FnOk P w K mg base CX0 2 f fd ["rows", "house", "number"] (spIsIn Pc) := by
  refine F0.ok sc_is_in (fun vs H Q E h => ?_) (fun A outer s H vs Q E hr h => ?_)
  · obtain ⟨F, v, rs, h, n, rfl, _⟩ := h
    rfl
  · obtain ⟨F, v, rs, h, n, rfl, fh, hv, ht, fP, q⟩ := h
    refine ⟨_, (pss_one (ps_ret (Gx.pe_anyR (u1 := "house") (u2 := "number") (i1 := 1) (i2 := 2) (pb := inB) hr (by rfl) hany TB rfl ⟨rfl, rfl, by decide +kernel, rfl, rfl, rfl, rfl, ?fr⟩ (by decide) (by decide) (by decide)
        (pv 0) (fun a1 a2 => elt_has rfl rfl rfl rfl rfl) ⟨rfl, ?v1, rfl, ?m1, ?al1⟩ ⟨rfl, ?v2, rfl, ?m2, ?al2⟩ (fun _ => rfl) (by decide +kernel)))), ?_⟩
    case fr | al1 | al2 =>
      intro z hz e
      simp only [List.mem_cons, List.not_mem_nil, or_false] at hz
      rcases hz with rfl | rfl | rfl | rfl | rfl | rfl
      · cases e
      · cases e
      · cases e
      · cases e
      · exact ⟨_, rfl⟩
      · exact ⟨_, rfl⟩
    case v1 => exact .inr (.inl rfl)
    case v2 => exact .inr (.inl rfl)
    case m1 => decide +kernel
    case m2 => decide +kernel
    obtain ⟨a, xs, rfl, ha, hp⟩ := hv
    obtain ⟨pp, hpp, htr⟩ := ht
    refine ⟨_, rfl, a, xs, rs, h, n, rfl, fh _ _ ha, pr_mono (fun _ _ z => kRow.mono fh z) hp, ⟨pp, hpp, htr⟩, rfl, rfl, fun H3 t3 => ?_⟩
    obtain ⟨tg, same⟩ := t3
    have e3 : ∃ o, H3 = upd H Pc o := by
      obtain ⟨p3, hp3, _⟩ := tg
      exact ⟨.tbl p3, funext fun b => by
        by_cases hb : b = Pc
        · rw [hb, upd_same, hp3]
        · rw [upd_ne hb, same b hb]⟩
    obtain ⟨o, rfl⟩ := e3
    refine q _ _ ?_ ((Ext.refl fh).put (.inr rfl) fP) tg
    rw [List.any_eq_true]
    unfold mem inRow inB
    constructor
    · rintro ⟨r, hr, z⟩
      rw [Bool.and_eq_true, decide_eq_true_eq, decide_eq_true_eq] at z
      exact ⟨r, hr, z.1, z.2.1, z.2.2⟩
    · rintro ⟨r, hr, z1, z2, z3⟩
      exact ⟨r, hr, by rw [Bool.and_eq_true, decide_eq_true_eq, decide_eq_true_eq]; exact ⟨z1, z2, z3⟩⟩
end
end Rw
namespace Rw
open PySem L2
open GxR (TabB TabG Tabbed)
/-! ### what deeds come to -/
def memB (rs : List Row) (p : Pt) : Bool := rs.any (inB p.1 p.2)
theorem memB_iff {rs : List Row} {p : Pt} : memB rs p = true ↔ mem rs p := by
  unfold memB mem inRow inB
  rw [List.any_eq_true]
  constructor
  · rintro ⟨r, hr, z⟩
    rw [Bool.and_eq_true, decide_eq_true_eq, decide_eq_true_eq] at z
    exact ⟨r, hr, z.1, z.2.1, z.2.2⟩
  · rintro ⟨r, hr, z1, z2, z3⟩
    exact ⟨r, hr, by rw [Bool.and_eq_true, decide_eq_true_eq, decide_eq_true_eq]; exact ⟨z1, z2, z3⟩⟩
def sLtB (a b : Deed) : Bool := decide (a.t < b.t ∨ (a.t = b.t ∧ (a.h < b.h ∨ (a.h = b.h ∧ a.n < b.n))))
theorem sLtB_iff {a b : Deed} : sLtB a b = true ↔ sLt a b := by unfold sLtB sLt; rw [decide_eq_true_eq]
def tgt : What → Option Pt
  | .back h n => some (h, n)
  | _ => none
def has (d : Deed) (p : Pt) : Bool := match d.w with
  | .shut rows => memB rows p
  | _ => false
def lasting : What → Bool
  | .shut _ => true
  | .bye => true
  | _ => false
/-- a back of p that does nothing -/
def voidP (line : List Deed) (gone : List Row) (d : Deed) (p : Pt) : Bool := memB gone p || line.any (fun s => sLtB s d && has s p) || line.any (fun e => decide (name e = p) && !sLtB e d)
def voidB (line : List Deed) (gone : List Row) (d : Deed) : Bool := match tgt d.w with
  | some p => voidP line gone d p
  | none => false
def voidsOf (line : List Deed) (gone : List Row) : List Pt := (line.filter (voidB line gone)).map name
def takenL (V : List Pt) : List Deed → List Pt
  | [] => []
  | d :: rest => match tgt d.w with
    | some p => if name d ∉ V ∧ name d ∉ takenL V rest then p :: takenL V rest else takenL V rest
    | none => takenL V rest
def takenOf (line : List Deed) (gone : List Row) : List Pt := takenL (voidsOf line gone) line
def standB (line : List Deed) (gone : List Row) (d : Deed) : Bool := lasting d.w || !decide (name d ∈ takenOf line gone)
def standOf (line : List Deed) (gone : List Row) : List Deed := line.filter (standB line gone)
def worthStep (b : List Int) (d : Deed) : List Int := match d.w with
  | .chg false k x => b.set k.toNat x
  | .chg true k x => b.set k.toNat (b.getD k.toNat 0 + x)
  | _ => b
def worthsOf (b : List Int) (line : List Deed) (gone : List Row) : List Int := (standOf line gone).foldl worthStep b
structure Line (line : List Deed) : Prop where
  ord : line.Pairwise sLt
  uq : Uniq line
  ok : ∀ d ∈ line, DeedOk d
  few : line.length ≤ 400
theorem sLt_irr {a b : Deed} (h : sLt a b) (g : sLt b a) : False := by unfold sLt at h g; omega
theorem Line.names {line : List Deed} (L : Line line) : (line.map name).Nodup :=
  List.pairwise_map.mpr (List.Pairwise.imp_of_mem (fun {a b} ha hb h e => sLt_irr h (by rw [L.uq a ha b hb e] at h ⊢; exact h)) L.ord)
/-- in a line, lesser is ahead -/
theorem Line.ahead {line : List Deed} (L : Line line) {i : Nat} {d : Deed} (h : line[i]? = some d) (e : Deed) : (e ∈ line.take i ↔ e ∈ line ∧ sLt e d) := by
  have split : line = line.take i ++ d :: line.drop (i + 1) := by
    obtain ⟨hi, rfl⟩ := List.getElem?_eq_some_iff.mp h
    rw [← List.drop_eq_getElem_cons hi, List.take_append_drop]
  have ord := L.ord
  rw [split] at ord
  obtain ⟨_, o2, o3⟩ := List.pairwise_append.mp ord
  constructor
  · intro m
    exact ⟨List.mem_of_mem_take m, o3 e m d List.mem_cons_self⟩
  · rintro ⟨m, lt⟩
    rw [split] at m
    rcases List.mem_append.mp m with m | m
    · exact m
    · rcases List.mem_cons.mp m with rfl | m
      · exact (sLt_irr lt lt).elim
      · exact (sLt_irr lt ((List.pairwise_cons.mp o2).1 e m)).elim
/-! ### frames with one table that changes -/
structure GS (Pc : Addr) (F0 H0 F H : Hp) : Prop where
  ext : Ext (· = Pc) F0 H0 F H
  tab : TabG H Pc
  fP : F Pc = none
section
variable {Pc : Addr} {F0 H0 F H F' H' : Hp}
theorem GS.same (S : GS Pc F0 H0 F H) : Same F H := S.ext.fh
theorem GS.start (s : Same F H) (t : TabG H Pc) (f : F Pc = none) : GS Pc F H F H := ⟨Ext.refl s, t, f⟩
theorem GS.step (S : GS Pc F0 H0 F H) (X : Ext M0 F H F' H') : GS Pc F0 H0 F' H' := by
  obtain ⟨pp, hp, ht⟩ := S.tab
  exact ⟨S.ext.trans X.up, ⟨pp, X.same _ _ hp, ht⟩, by rw [X.new Pc (by rw [hp]; simp)]; exact S.fP⟩
theorem GS.grow (S : GS Pc F0 H0 F H) (X : Ext (· = Pc) F H F' H') (t : TabG H' Pc) : GS Pc F0 H0 F' H' := by
  obtain ⟨pp, hp, ht⟩ := S.tab
  exact ⟨S.ext.trans X, t, by rw [X.new Pc (by rw [hp]; simp)]; exact S.fP⟩
theorem GS.trans (S : GS Pc F0 H0 F H) (G : GS Pc F H F' H') : GS Pc F0 H0 F' H' := ⟨S.ext.trans G.ext, G.tab, G.fP⟩
theorem GS.lay {p : Addr} {o : HO} (S : GS Pc F0 H0 F H) (np : H p = none) : GS Pc F0 H0 (upd F p o) (upd H p o) := S.step ((Ext.refl S.same).lay np)
theorem GS.tmp {p : Addr} {o : HO} (S : GS Pc F0 H0 F H) (np : H p = none) : GS Pc F0 H0 F (upd H p o) := S.step ((Ext.refl S.same).tmp np)
theorem GS.ne {p : Addr} {xs : List V} (S : GS Pc F0 H0 F H) (h : H p = some (.lst xs)) : p ≠ Pc := fun e => by
  obtain ⟨pp, hp, _⟩ := S.tab
  rw [e, hp] at h; cases h
/-- a list of one's own is written -/
theorem GS.put {p : Addr} {xs ys : List V} (S : GS Pc F0 H0 F H) (h0 : H0 p = none) (f : F p = none) (h : H p = some (.lst xs)) : GS Pc F0 H0 F (upd H p (.lst ys)) := by
  obtain ⟨pp, hp, ht⟩ := S.tab
  exact ⟨S.ext.put (.inl h0) f, ⟨pp, by rw [upd_ne fun e => by rw [e, h] at hp; cases hp]; exact hp, ht⟩, S.fP⟩
theorem GS.frz {p : Addr} {xs : List V} (S : GS Pc F0 H0 F H) (h0 : H0 p = none) (f : F p = none) (h : H p = some (.lst xs)) : GS Pc F0 H0 (upd F p (.lst xs)) H :=
  ⟨S.ext.frz h0 f h, S.tab, by rw [upd_ne (S.ne h).symm]; exact S.fP⟩
end
/-- a promise: a new list of such data, of which φ holds; the table may have grown -/
def RetP {α : Type} (Pc : Addr) (F H : Hp) (k : Kd α) (φ : List α → Prop) (Q : VK) : Prop :=
  ∀ (F' H' : Hp) (a : Addr) (vs : List V) (xs : List α), GS Pc F H F' H' → H a = none → F' a = none → H' a = some (.lst vs) → Paired (k.is F') vs xs → φ xs → Q (.ref a) H'
theorem RetP.of {α : Type} {Pc : Addr} {F0 H0 F H : Hp} {k : Kd α} {φ : List α → Prop} {Q : VK} (S : GS Pc F0 H0 F H) (q : RetP Pc F0 H0 k φ Q) : RetP Pc F H k φ Q := fun F' H' a vs xs G na fa ha hp hx => q F' H' a vs xs (S.trans G) (S.ext.free na) fa ha hp hx
def spIsLasting : Sp := fun vs H Q _ => ∃ (F : Hp) (v : V) (d : Deed), vs = [v] ∧ Same F H ∧ kDeed.is F v d ∧ ∀ H', Ext M0 F H F H' → Q (.bl (lasting d.w)) H'
def spVoidIn (Pc : Addr) : Sp := fun vs H Q _ => ∃ (F : Hp) (v g : V) (line : List Deed) (gone : List Row), vs = [v, g] ∧ Same F H ∧ (kL kDeed).is F v line ∧ (kL kRow).is F g gone ∧ Line line ∧ Valid gone ∧ gone.length ≤ 10000 ∧ TabG H Pc ∧ F Pc = none ∧ RetP Pc F H kPt (· = voidsOf line gone) Q
section
variable {P : Program} {w : World} {K : PySem.W.Frag} {mg : Str → Option Value} {base : Heap}
theorem ok_is_lasting {f : Addr} {fd : FuncData} (F0 : Fun K "is_lasting" "is_lasting" s_is_lasting f fd) (CW : Cal P w K mg base 1 "word_of" ["deed"] spWordOf) : FnOk P w K mg base CX0 2 f fd ["deed"] spIsLasting := by
  obtain ⟨f1, fd1, G1, g1, kp1, b1⟩ := CW
  refine F0.ok sc_is_lasting (fun vs H Q E h => ?_) (fun cdv A outer s H vs Q E hr h => ?_)
  · obtain ⟨F, v, d, rfl, _⟩ := h
    rfl
  · obtain ⟨F, v, d, rfl, fh, hv, q⟩ := h
    refine ⟨_, pss_one (ps_ret (pe_cmpR op_in_seq (pe_call G1 hr (by rfl) g1 kp1 b1 .nil pass0 (pa_cons (pv 0) pa_nil)) (pe_tup (pa_cons pe_str (pa_cons pe_str pa_nil))) (by rfl))), ?_⟩
    refine ⟨_, rfl, F, v, d, rfl, fh, hv, by show 2 ≤ sizeLine; decide, fun p np => ?_⟩
    have e : inV (.str (word d.w)) [.str "seal", .str "bye"] = lasting d.w := by
      cases d.w with
      | chg b k x => cases b <;> rfl
      | back k n => rfl
      | shut rows => rfl
      | bye => rfl
    refine ⟨p, _, rfl, .inr (SqT.of upd_same), rfl, rfl, ?_⟩
    rw [if_neg Bool.false_ne_true, e]
    exact q _ ((Ext.refl fh).tmp np)
/-- where each deed stands -/
def placeFrom (i : Nat) : List Deed → List (List Key × V)
  | [] => []
  | d :: ds => (kk (name d), V.int i) :: placeFrom (i + 1) ds
theorem placeFrom_snoc (d : Deed) : ∀ (line : List Deed) (i : Nat), placeFrom i (line ++ [d]) = placeFrom i line ++ [(kk (name d), V.int ((i + line.length : Nat) : Int))]
  | [], i => rfl
  | e :: line, i => by
    show (_, _) :: placeFrom (i + 1) (line ++ [d]) = _
    rw [placeFrom_snoc d line (i + 1), List.length_cons, show i + 1 + line.length = i + (line.length + 1) by omega]
    rfl
theorem placeFrom_len : ∀ (line : List Deed) (i : Nat), (placeFrom i line).length = line.length
  | [], _ => rfl
  | _ :: line, i => by show (placeFrom (i + 1) line).length + 1 = _; rw [placeFrom_len line (i + 1)]; rfl
theorem placeFrom_keys : ∀ (line : List Deed) (i : Nat), (placeFrom i line).map (·.1) = line.map fun d => kk (name d)
  | [], _ => rfl
  | d :: line, i => by show kk (name d) :: (placeFrom (i + 1) line).map (·.1) = _; rw [placeFrom_keys line (i + 1)]; rfl
theorem placeFrom_get (p : Pt) : ∀ (line : List Deed) (i : Nat), (line.map name).Nodup → (valV (placeFrom i line) (kk p) = none ∧ p ∉ line.map name) ∨ ∃ (j : Nat) (e : Deed), line[j]? = some e ∧ name e = p ∧ valV (placeFrom i line) (kk p) = some (.int ((i + j : Nat) : Int))
  | [], i, _ => .inl ⟨rfl, by simp⟩
  | d :: line, i, nd => by
    obtain ⟨n1, n2⟩ := List.nodup_cons.mp nd
    by_cases e : name d = p
    · refine .inr ⟨0, d, rfl, e, ?_⟩
      show ((placeFrom i (d :: line)).find? fun kv => decide (kv.1 = kk p)).map (·.2) = _
      unfold placeFrom
      rw [List.find?_cons_of_pos (by rw [e]; simp)]
      rfl
    · have step : valV (placeFrom i (d :: line)) (kk p) = valV (placeFrom (i + 1) line) (kk p) := by
        show ((placeFrom i (d :: line)).find? fun kv => decide (kv.1 = kk p)).map (·.2) = _
        rw [show placeFrom i (d :: line) = (kk (name d), V.int i) :: placeFrom (i + 1) line from rfl, List.find?_cons_of_neg (by simp only [decide_eq_true_eq]; exact fun z => e (kk_inj z))]
        rfl
      rcases placeFrom_get p line (i + 1) n2 with ⟨h1, h2⟩ | ⟨j, x, h1, h2, h3⟩
      · exact .inl ⟨by rw [step, h1], fun z => (List.mem_cons.mp z).elim (fun z => e z.symm) h2⟩
      · exact .inr ⟨j + 1, x, h1, h2, by rw [step, h3, show i + 1 + j = i + (j + 1) by omega]⟩
theorem putK_new {kvs : List (List Key × V)} {k : List Key} {v : V} (h : k ∉ kvs.map (·.1)) : putK kvs k v = kvs ++ [(k, v)] := by
  unfold putK
  rw [if_neg]
  intro z
  obtain ⟨kv, hkv, e⟩ := List.any_eq_true.mp z
  exact h (List.mem_map.mpr ⟨kv, hkv, of_decide_eq_true e⟩)
theorem void_iff {line : List Deed} {gone sl : List Row} {i : Nat} {d : Deed} {p : Pt} (L : Line line) (hd : line[i]? = some d) (hw : tgt d.w = some p) (hm : mem sl p ↔ mem gone p ∨ ∃ s ∈ line.take i, has s p = true) :
    voidB line gone d = true ↔ mem sl p ∨ ∃ (j : Nat) (e : Deed), line[j]? = some e ∧ name e = p ∧ i ≤ j := by
  unfold voidB
  rw [hw]
  show voidP line gone d p = true ↔ _
  unfold voidP
  rw [Bool.or_eq_true, Bool.or_eq_true, memB_iff, List.any_eq_true, List.any_eq_true, hm]
  refine or_congr (or_congr Iff.rfl ⟨?_, ?_⟩) ⟨?_, ?_⟩
  · rintro ⟨s, hs, z⟩
    rw [Bool.and_eq_true, sLtB_iff] at z
    exact ⟨s, (L.ahead hd s).mpr ⟨hs, z.1⟩, z.2⟩
  · rintro ⟨s, hs, z⟩
    obtain ⟨h1, h2⟩ := (L.ahead hd s).mp hs
    exact ⟨s, h1, by rw [Bool.and_eq_true, sLtB_iff]; exact ⟨h2, z⟩⟩
  · rintro ⟨e, he, z⟩
    rw [Bool.and_eq_true, decide_eq_true_eq, Bool.not_eq_true'] at z
    obtain ⟨j, hj⟩ := List.mem_iff_getElem?.mp he
    refine ⟨j, e, hj, z.1, ?_⟩
    by_cases c : i ≤ j
    · exact c
    · have : e ∈ line.take i := List.mem_of_getElem? (i := j) (by rw [List.getElem?_take]; rw [if_pos (by omega)]; exact hj)
      have := sLtB_iff.mpr ((L.ahead hd e).mp this).2
      rw [z.2] at this; cases this
  · rintro ⟨j, e, hj, z, le⟩
    refine ⟨e, List.mem_of_getElem? hj, ?_⟩
    rw [Bool.and_eq_true, decide_eq_true_eq, Bool.not_eq_true']
    refine ⟨z, ?_⟩
    cases c : sLtB e d with
    | false => rfl
    | true =>
      obtain ⟨k, hk⟩ := List.mem_iff_getElem?.mp ((L.ahead hd e).mpr ⟨List.mem_of_getElem? hj, sLtB_iff.mp c⟩)
      rw [List.getElem?_take] at hk
      split at hk
      · have nd := L.names
        have e1 : (line.map name)[k]? = some (name e) := by rw [List.getElem?_map, hk]; rfl
        have e2 : (line.map name)[j]? = some (name e) := by rw [List.getElem?_map, hj]; rfl
        have := (List.getElem?_inj (i := k) (j := j) (List.getElem?_eq_some_iff.mp e1).1 nd).mp (by rw [e1, e2])
        omega
      · cases hk
set_option maxHeartbeats 2000000 in
theorem ok_void_in {f Pc : Addr} {fd : FuncData} (F0 : Fun K "void_in" "void_in" s_void_in f fd) (T : TxD mg) (CI : Cal P w K mg base 2 "is_in" ["rows", "house", "number"] (spIsIn Pc)) (CF : Cal P w K mg base 3 "fewest" ["rows"] spFewest) (CN : Cal P w K mg base 1 "name_of" ["deed"] spNameOf) :
    FnOk P w K mg base CX0 4 f fd ["line", "gone"] (spVoidIn Pc) := by
  obtain ⟨f1, fd1, G1, g1, kp1, b1⟩ := CI
  obtain ⟨f2, fd2, G2, g2, kp2, b2⟩ := CF
  obtain ⟨f3, fd3, G3, g3, kp3, b3⟩ := CN
  refine F0.ok sc_void_in (fun vs H Q E h => ?_) (fun cdv A outer s H vs Q E hr h => ?_)
  · obtain ⟨F, v, g, line, gone, rfl, _⟩ := h
    rfl
  · obtain ⟨F, v, g, line, gone, rfl, fh, ⟨a, xs, rfl, ha, hp⟩, hg, L, vg, lg, tab, fP, q⟩ := h
    have hr1 : Room 1 _ := hr.mono (by decide)
    have hr2 : Room 2 _ := hr.mono (by decide)
    have hu := hu_of hr
    refine ⟨_, pss_cons (ps_setDcT (i := 4) (own := [("at", 2), ("deed", 3)]) (g := gTup K 2 (gCons (gName 2) (gCons (gName 3) gNil))) (tt := tYes) (tk := tCall spNameOf [] E0 (tCons (tVar 3) tNil)) (tv := tVar 2) (by rfl) hu sc_void_in.nd rfl rfl (sw_dict rfl rfl rfl (by decide +kernel)) (pi_enum (by rfl) T.a.enum (pa_cons (pv 0) pa_nil))
        (blkOk_by (own := [("at", 2), ("deed", 3)]) (N := ["line", "gone", "at", "deed", "places", "sealed", "out", "what"]) (sc := defScope s_void_in) (by decide +kernel)) (fun _ _ _ _ _ => pg_tup (by rfl) (pgs_cons (pg_name (i := 2) sc_void_in.nd rfl (.inl rfl)) (pgs_cons (pg_name (i := 3) sc_void_in.nd rfl (.inl rfl)) pgs_nil))) (fun _ _ _ _ _ => pts_nil)
        (fun _ _ _ _ _ => pe_call G3 hr1 (by rfl) g3 kp3 b3 .nil pass0 (pa_cons (pv 3) pa_nil)) (fun _ _ _ _ _ => pv 2))
      (pss_cons (ps_set (i := 5) sc_void_in.nd rfl (.inl rfl) (pv 1))
      (pss_cons (ps_set (i := 6) sc_void_in.nd rfl (.inl rfl) (pe_lst pa_nil))
      (pss_cons (ps_for PassesOwn.never rfl (pi_enum (by rfl) T.a.enum (pa_cons (pv 0) pa_nil))
          (pg_tup rfl (pgs_cons (pg_name (i := 2) sc_void_in.nd rfl (.inl rfl)) (pgs_cons (pg_name (i := 3) sc_void_in.nd rfl (.inl rfl)) pgs_nil)))
        (pss_cons (ps_set (i := 7) sc_void_in.nd rfl (.inl rfl) (pe_ix ix_tup (pv 3) pe_int (fun _ _ => rfl)))
        (pss_cons (ps_if (pt_cmpR op_eq (pe_ix ix_tup (pv 7) pe_int (fun _ _ => rfl)) pe_str (nomark _))
            (pss_one (ps_set (i := 5) sc_void_in.nd rfl (.inl rfl) (pe_call G2 hr (by rfl) g2 kp2 b2 .nil pass0 (pa_cons (pe_op op_cat (pv 5) (pe_callTy call_list_of (by rfl) T.list (by decide +kernel) (pa_cons (pe_ix ix_tup (pv 7) pe_int (fun _ _ => rfl)) pa_nil))) pa_nil)))) pss_nil)
        (pss_one (ps_if (PW.pt (pw_and (pt_cmpR op_eq (pe_ix ix_tup (pv 7) pe_int (fun _ _ => rfl)) pe_str (nomark _))
            (pw_and1 (PW.pt (pw_or (pt_val (pe_call G1 hr2 (by rfl) g1 kp1 b1 .nil pass0 (pa_cons (pv 5) (pa_cons (pe_ix ix_tup (pv 7) pe_int (fun _ _ => rfl)) (pa_cons (pe_ix ix_tup (pv 7) pe_int (fun _ _ => rfl)) pa_nil)))))
              (pw_or1 (pt_cmpR op_ge (pe_dget2 hu (pv 4) (pe_slice sl_tup (pv 7) (po_some pe_int) po_none) (pe_un un_neg pe_int) ⟨rfl, rfl, rfl, rfl⟩) (pv 2) (nomark _))))))))
          (pss_one (ps_expr (pe_bm PySem.F.plainAttrs_list PySem.F.slot_list_append PySem.F.type_list_append mt_append (pv 6) (pa_cons (pe_call G3 hr1 (by rfl) g3 kp3 b3 .nil pass0 (pa_cons (pv 3) pa_nil)) pa_nil)))) pss_nil)))))
      (pss_one (ps_ret (pv 6)))))), ?_⟩
    have S0 := GS.start fh tab fP
    obtain ⟨b, ys, rfl, hb, pb⟩ := hg
    have nd := L.names
    have l4 := L.few
    refine ⟨_, rfl, a, _, rfl, SqL.of (fh _ _ ha), fun D nD => ?_⟩
    refine it_by (walk_enum (K := K) (a := a) (xs := xs)) (fun i H' => ∃ F' : Hp, Ext M0 F H F' H' ∧ H' D = some (.dT (placeFrom 0 (line.take i))) ∧ F' D = none)
      ⟨F, (Ext.refl fh).tmp nD, upd_same, fh.free nD⟩ (fun i H' _ ⟨_, X, _⟩ => SqL.of (X.fh _ _ (X.ff _ _ ha))) ?_ ?_
    · rintro i x H2 H3 hi ⟨F2, X2, hD, fD⟩ ⟨U, i', dv, rfl, nU, rfl, ei, er⟩
      cases ei
      obtain ⟨d, hd, hdv⟩ := pr_get hp er
      have X3 := X2.tmp (o := .tup [.int i, dv]) nU
      have hD3 : upd H2 U (.tup [.int i, dv]) D = some (.dT (placeFrom 0 (line.take i))) := by rw [upd_ne (ne_of_none hD nU)]; exact hD
      refine ⟨U, _, rfl, SqT.of upd_same, rfl, _, [dv], rfl, dv, [], rfl, rfl, rfl, _, rfl, F2, dv, d, rfl, X3.fh, kDeed.mono X2.ff hdv, fun p np => ⟨_, rfl, placeFrom 0 (line.take i), kk (name d), p, rfl, upd_same, ?_, ?_, ?_⟩⟩
      · rw [upd_ne (ne_of_none hD3 np)]; exact hD3
      · rw [placeFrom_len, sizeLine_eq, List.length_take]; omega
      · have eT : line.take (i + 1) = line.take i ++ [d] := by rw [List.take_add_one, hd]; rfl
        have il : i < line.length := (List.getElem?_eq_some_iff.mp hd).1
        refine ⟨F2, (X3.tmp np).put (.inl nD) fD, ?_, fD⟩
        rw [upd_same, eT, placeFrom_snoc, putK_new, List.length_take, Nat.min_eq_left (Nat.le_of_lt il), Nat.zero_add]
        rw [placeFrom_keys]
        intro m
        obtain ⟨e, he, ee⟩ := List.mem_map.mp m
        have := ((L.ahead hd e).mp he).2
        rw [L.uq e (List.mem_of_mem_take he) d (List.mem_of_getElem? hd) (kk_inj ee)] at this
        exact sLt_irr this this
    · rintro H3 ⟨F2, X2, hD, fD⟩
      rw [pr_len hp, List.take_length] at hD
      have S3 := S0.step (X2.frz nD fD hD)
      have m3 := (X2.frz nD fD hD).ff
      have hDF : upd F2 D (.dT (placeFrom 0 line)) D = some (.dT (placeFrom 0 line)) := upd_same
      revert S3 m3 hDF
      generalize upd F2 D (.dT (placeFrom 0 line)) = F3
      intro S3 m3 hDF
      clear X2 hD fD nD
      refine ⟨_, rfl, Nat.zero_le _, fun o no => ?_⟩
      have no0 := S3.ext.free no
      have S4 := S3.tmp (o := .lst []) no
      refine ⟨_, rfl, a, _, rfl, SqL.of (S4.same _ _ (m3 _ _ ha)), for_it (walk_enum (K := K) (a := a) (xs := xs)) (fun i σ H' => ∃ (F' : Hp) (y2 y3 y7 : Option V) (sv : V) (sl : List Row) (acc : List V), σ = [some (.ref a), some (.ref b), y2, y3, some (.ref D), some sv, some (.ref o), y7] ∧ GS Pc F H F' H' ∧ Same F3 F' ∧ (kL kRow).is F' sv sl ∧ Valid sl ∧ sl.length ≤ 10000 + 200 * i ∧
          (∀ p, mem sl p ↔ mem gone p ∨ ∃ s ∈ line.take i, has s p = true) ∧ H' o = some (.lst acc) ∧ F' o = none ∧ Paired (kPt.is F') acc (((line.take i).filter (voidB line gone)).map name))
        ⟨F3, _, _, _, _, gone, [], rfl, S4, Same.refl _, ⟨b, ys, rfl, m3 _ _ hb, pr_mono (fun _ _ z => kRow.mono m3 z) pb⟩, vg, by omega, fun p => by simp, upd_same, S3.same.free no, .nil⟩ (fun i σ H' _ ⟨_, _, _, _, _, _, _, _, S, m, _⟩ => SqL.of (S.same _ _ (m _ _ (m3 _ _ ha)))) ?_ ?_⟩
      · rintro i x σ H5 H6 hi ⟨F5, y2, y3, y7, sv, sl, acc, rfl, S5, m5, hsv, vs', ls, hm, ho, fo, hacc⟩ ⟨U, i', dv, rfl, nU, rfl, ei, er⟩
        cases ei
        obtain ⟨d, hd, hdv⟩ := pr_get hp er
        have il : i < line.length := (List.getElem?_eq_some_iff.mp hd).1
        have S6 := S5.tmp (o := .tup [.int i, dv]) nU
        have ho6 : upd H5 U (.tup [.int i, dv]) o = some (.lst acc) := by rw [upd_ne (ne_of_none ho nU)]; exact ho
        refine ⟨U, _, rfl, SqT.of upd_same, rfl, _, [dv], rfl, dv, [], rfl, rfl, ?_⟩
        revert S6 ho6
        generalize upd H5 U (.tup [V.int i, dv]) = H6
        intro S6 ho6
        have kd := kDeed.mono (m3.trans m5) hdv
        obtain ⟨da, u, rfl, hda, hu'⟩ := id kd
        have eT : line.take (i + 1) = line.take i ++ [d] := by rw [List.take_add_one, hd]; rfl
        have lacc : acc.length ≤ 400 := by
          rw [pr_len hacc, List.length_map]
          have h1 := List.length_filter_le (voidB line gone) (line.take i)
          have h2 := List.length_take_le' i line
          omega
        have keep : (∀ p, has d p = false) → ∀ p, mem sl p ↔ mem gone p ∨ ∃ s ∈ line.take (i + 1), has s p = true := fun hn p => by
          rw [hm p, eT]
          refine or_congr Iff.rfl ⟨fun ⟨s, hs, z⟩ => ⟨s, List.mem_append_left _ hs, z⟩, fun ⟨s, hs, z⟩ => ?_⟩
          rcases List.mem_append.mp hs with hs | hs
          · exact ⟨s, hs, z⟩
          · rw [List.mem_singleton.mp hs, hn p] at z; cases z
        have no' : voidB line gone d = false → ((line.take (i + 1)).filter (voidB line gone)).map name = ((line.take i).filter (voidB line gone)).map name := fun z => by
          rw [eT, List.filter_append, List.filter_cons_of_neg (by simp [z])]; simp
        have yes : voidB line gone d = true → ((line.take (i + 1)).filter (voidB line gone)).map name = ((line.take i).filter (voidB line gone)).map name ++ [name d] := fun z => by
          rw [eT, List.filter_append, List.filter_cons_of_pos z, List.map_append]; rfl
        -- what = deed[3]
        refine ⟨_, rfl, da, _, 3, _, rfl, rfl, SqT.of (S6.same _ _ hda), rfl, ?_⟩
        cases hw : d.w with
        | chg bb k x =>
          rw [hw] at hu'
          obtain ⟨wa, rfl, hwa⟩ := hu'
          have hwH := S6.same _ _ hwa
          have nv : voidB line gone d = false := by unfold voidB; rw [hw]; rfl
          have nh : ∀ p, has d p = false := fun p => by unfold has; rw [hw]
          refine ⟨_, rfl, wa, _, 0, _, rfl, rfl, SqT.of hwH, rfl, rfl, false, by cases bb <;> decide, iteF ?_⟩
          refine ⟨_, rfl, wa, _, 0, _, rfl, rfl, SqT.of hwH, rfl, rfl, false, by cases bb <;> decide, iteF (iteF ?_)⟩
          exact ⟨F5, _, _, _, sv, sl, acc, rfl, S6, m5, hsv, vs', by omega, keep nh, ho6, fo, by rw [no' nv]; exact hacc⟩
        | bye =>
          rw [hw] at hu'
          obtain ⟨wa, rfl, hwa⟩ := hu'
          have hwH := S6.same _ _ hwa
          have nv : voidB line gone d = false := by unfold voidB; rw [hw]; rfl
          have nh : ∀ p, has d p = false := fun p => by unfold has; rw [hw]
          refine ⟨_, rfl, wa, _, 0, _, rfl, rfl, SqT.of hwH, rfl, rfl, false, by decide, iteF ?_⟩
          refine ⟨_, rfl, wa, _, 0, _, rfl, rfl, SqT.of hwH, rfl, rfl, false, by decide, iteF (iteF ?_)⟩
          exact ⟨F5, _, _, _, sv, sl, acc, rfl, S6, m5, hsv, vs', by omega, keep nh, ho6, fo, by rw [no' nv]; exact hacc⟩
        | shut rows =>
          rw [hw] at hu'
          obtain ⟨wa, ru, rfl, hwa, ra, rvs, rfl, hra, pra⟩ := hu'
          have hwH := S6.same _ _ hwa
          have nv : voidB line gone d = false := by unfold voidB; rw [hw]; rfl
          have okd := (L.ok d (List.mem_of_getElem? hd)).w
          rw [hw] at okd
          obtain ⟨⟨lr, okr⟩, _⟩ := okd
          refine ⟨_, rfl, wa, _, 0, _, rfl, rfl, SqT.of hwH, rfl, rfl, true, by decide, iteT ?_⟩
          obtain ⟨sa, svs, rfl, hsa, psv⟩ := hsv
          refine ⟨_, rfl, _, rfl, wa, _, 1, _, rfl, rfl, SqT.of hwH, rfl, ra, rvs, rfl, .inr (SqT.of (S6.same _ _ hra)), fun l nl => ?_⟩
          have S7 := S6.tmp (o := .lst rvs) nl
          have ho7 : upd H6 l (.lst rvs) o = some (.lst acc) := by rw [upd_ne (ne_of_none ho6 nl)]; exact ho6
          have hl7 : upd H6 l (.lst rvs) l = some (.lst rvs) := upd_same
          revert S7 ho7 hl7
          generalize upd H6 l (.lst rvs) = H7
          intro S7 ho7 hl7
          have lsv := pr_len psv
          have lrv := pr_len pra
          refine ⟨sa, l, svs, rvs, rfl, rfl, S7.same _ _ hsa, hl7, by rw [sizeLine_eq]; omega, fun c nc => ?_⟩
          have S8 := S7.lay (o := .lst (svs ++ rvs)) nc
          have ho8 : upd H7 c (.lst (svs ++ rvs)) o = some (.lst acc) := by rw [upd_ne (ne_of_none ho7 nc)]; exact ho7
          have m8 : Same F5 (upd F5 c (.lst (svs ++ rvs))) := same_upd (S7.same.free nc)
          have kc : (kL kRow).is (upd F5 c (.lst (svs ++ rvs))) (.ref c) (sl ++ rows) := kL_new (S7.same.free nc) (pr_append psv pra)
          have fo8 : upd F5 c (.lst (svs ++ rvs)) o = none := by rw [upd_ne (ne_of_none ho7 nc)]; exact fo
          revert S8 ho8 m8 kc fo8
          generalize upd F5 c (.lst (svs ++ rvs)) = F8
          generalize upd H7 c (.lst (svs ++ rvs)) = H8
          intro S8 ho8 m8 kc fo8
          refine ⟨F8, .ref c, sl ++ rows, rfl, S8.same, kc, fun r hr' => (List.mem_append.mp hr').elim (vs' r) fun z => (okr r z).2.2.2.1, by rw [List.length_append]; omega, fun F9 H9 e ev out X9 ne fe he pe fw => ?_⟩
          have ho9 := X9.same _ _ ho8
          have fo9 : F9 o = none := by rw [X9.new o (by rw [ho8]; simp)]; exact fo8
          have X9' := X9.frz ne fe he
          have S9 := S8.step X9'
          have oe : o ≠ e := ne_of_none ho8 ne
          have fo9' : upd F9 e (.lst ev) o = none := by rw [upd_ne oe]; exact fo9
          have m9 := m8.trans X9'.ff
          refine ⟨_, rfl, wa, _, 0, _, rfl, rfl, SqT.of (S9.same _ _ (m9 _ _ hwa)), rfl, rfl, false, by decide, iteF (iteF ?_)⟩
          refine ⟨_, _, _, _, .ref e, out, acc, rfl, S9, m5.trans m9, kL_new fe pe, valid_canon fw.can, ?_, fun p => ?_, ho9, fo9', by rw [no' nv]; exact pr_mono (fun _ _ z => kPt.mono m9 z) hacc⟩
          · have := fw.len
            rw [List.length_append] at this
            omega
          · rw [fw.mem p, mem_append, hm p, eT]
            have hh : has d p = true ↔ mem rows p := by unfold has; rw [hw]; exact memB_iff
            constructor
            · rintro ((z | ⟨s, hs, z⟩) | z)
              · exact .inl z
              · exact .inr ⟨s, List.mem_append_left _ hs, z⟩
              · exact .inr ⟨d, List.mem_append_right _ (List.mem_singleton.mpr rfl), hh.mpr z⟩
            · rintro (z | ⟨s, hs, z⟩)
              · exact .inl (.inl z)
              · rcases List.mem_append.mp hs with hs | hs
                · exact .inl (.inr ⟨s, hs, z⟩)
                · rw [List.mem_singleton.mp hs] at z; exact .inr (hh.mp z)
        | back k n =>
          rw [hw] at hu'
          obtain ⟨wa, rfl, hwa⟩ := hu'
          have hwH := S6.same _ _ hwa
          have nh : ∀ p, has d p = false := fun p => by unfold has; rw [hw]
          have vi := void_iff (gone := gone) L hd (p := (k, n)) (by rw [hw]; rfl) (hm (k, n))
          refine ⟨_, rfl, wa, _, 0, _, rfl, rfl, SqT.of hwH, rfl, rfl, false, by decide, iteF ?_⟩
          refine ⟨_, rfl, wa, _, 0, _, rfl, rfl, SqT.of hwH, rfl, rfl, true, by decide, iteT ?_⟩
          refine ⟨_, rfl, _, rfl, wa, _, 1, _, rfl, rfl, SqT.of hwH, rfl, _, rfl, wa, _, 2, _, rfl, rfl, SqT.of hwH, rfl, F5, sv, sl, k, n, rfl, S6.same, hsv, S6.tab, S6.fP, fun bI H7 eI X7 t7 => ?_⟩
          have S7 := S6.grow X7 t7
          have ho7 : H7 o = some (.lst acc) := X7.hh _ _ ho6 (S6.ne ho6)
          have hDH := S7.same _ _ (m5 _ _ hDF)
          -- the end of a turn whose back is void
          have fin : voidB line gone d = true → ∀ {H8 : Hp}, GS Pc F H F5 H8 → H8 o = some (.lst acc) → ∀ p, H8 p = none → ∃ (F' : Hp) (y2 y3 y7 : Option V) (sv' : V) (sl' : List Row) (acc' : List V), [some (.ref a), some (.ref b), some (.int i), some (.ref da), some (.ref D), some sv, some (.ref o), some (.ref wa)] = [some (.ref a), some (.ref b), y2, y3, some (.ref D), some sv', some (.ref o), y7] ∧
              GS Pc F H F' (upd (upd H8 p (.tup [.int d.h, .int d.n])) o (.lst (acc ++ [.ref p]))) ∧ Same F3 F' ∧ (kL kRow).is F' sv' sl' ∧ Valid sl' ∧ sl'.length ≤ 10000 + 200 * (i + 1) ∧ (∀ p, mem sl' p ↔ mem gone p ∨ ∃ s ∈ line.take (i + 1), has s p = true) ∧
              (upd (upd H8 p (.tup [.int d.h, .int d.n])) o (.lst (acc ++ [.ref p]))) o = some (.lst acc') ∧ F' o = none ∧ Paired (kPt.is F') acc' (((line.take (i + 1)).filter (voidB line gone)).map name) := fun v H8 S8 ho8 p np => by
            have op : o ≠ p := ne_of_none ho8 np
            have S9 := S8.lay (o := .tup [.int d.h, .int d.n]) np
            have ho9 : upd H8 p (.tup [.int d.h, .int d.n]) o = some (.lst acc) := by rw [upd_ne op]; exact ho8
            have fo9 : upd F5 p (.tup [.int d.h, .int d.n]) o = none := by rw [upd_ne op]; exact fo
            have m9 : Same F5 (upd F5 p (.tup [.int d.h, .int d.n])) := same_upd (S8.same.free np)
            refine ⟨upd F5 p (.tup [.int d.h, .int d.n]), _, _, _, sv, sl, acc ++ [.ref p], rfl, S9.put no0 fo9 ho9, m5.trans m9, (kL kRow).mono m9 hsv, vs', by omega, keep nh, upd_same, fo9, ?_⟩
            rw [yes v]
            exact pr_snoc (pr_mono (fun _ _ z => kPt.mono m9 z) hacc) ⟨p, rfl, upd_same⟩
          cases hbI : bI with
          | true =>
            rw [hbI] at eI
            have v := vi.mpr (.inl (eI.mp rfl))
            refine ⟨true, rfl, iteT (iteT ?_)⟩
            exact ⟨_, rfl, .inl ⟨rfl, _, SqL.of ho7⟩, _, rfl, F5, .ref da, d, rfl, S7.same, kd, fun p np => ⟨o, acc, _, rfl, rfl, by rw [upd_ne (ne_of_none ho7 np)]; exact ho7, by rw [sizeLine_eq]; omega, fin v S7 ho7 p np⟩⟩
          | false =>
            rw [hbI] at eI
            have nm : ¬ mem sl (k, n) := fun z => Bool.false_ne_true (eI.mpr z)
            refine ⟨false, rfl, iteF ?_⟩
            refine ⟨_, rfl, D, rfl, .inr ⟨_, .inl hDH⟩, _, rfl, 1, rfl, wa, _, rfl, SqT.of (S7.same _ _ hwa), by simp [HT.sIx], fun p np => ?_⟩
            have S8 := S7.tmp (o := .tup (cutV [.str "back", .int k, .int n] (some 1) none)) np
            have ho8 : upd H7 p (.tup (cutV [.str "back", .int k, .int n] (some 1) none)) o = some (.lst acc) := by rw [upd_ne (ne_of_none ho7 np)]; exact ho7
            have hp8 : upd H7 p (.tup (cutV [.str "back", .int k, .int n] (some 1) none)) p = some (.tup [.int k, .int n]) := upd_same
            have hD8 := S8.same _ _ (m5 _ _ hDF)
            revert S8 ho8 hp8 hD8
            generalize upd H7 p (.tup (cutV [V.str "back", .int k, .int n] (some 1) none)) = H8
            intro S8 ho8 hp8 hD8
            refine ⟨1, rfl, valV (placeFrom 0 line) (kk (k, n)), DGet.t (k := kk (k, n)) hD8 hp8, ?_⟩
            rcases placeFrom_get (k, n) line 0 nd with ⟨g1', g2'⟩ | ⟨j, e, g1', g2', g3'⟩
            · rw [g1']
              have nv : voidB line gone d = false := by
                cases c : voidB line gone d with
                | false => rfl
                | true =>
                  rcases vi.mp c with z | ⟨j, e, z1, z2, _⟩
                  · exact absurd z nm
                  · exact absurd (List.mem_map.mpr ⟨e, List.mem_of_getElem? z1, z2⟩) g2'
              refine ⟨_, rfl, _, _, rfl, rfl, false, ?_, iteF ?_⟩
              · exact congrArg V.bl (decide_eq_false (show ¬ ((-1 : Int) ≥ (i : Int)) by omega))
              exact ⟨F5, _, _, _, sv, sl, acc, rfl, S8, m5, hsv, vs', by omega, keep nh, ho8, fo, by rw [no' nv]; exact hacc⟩
            · rw [g3']
              have e0 : ((0 + j : Nat) : Int) = (j : Int) := by omega
              by_cases c : i ≤ j
              · have v := vi.mpr (.inr ⟨j, e, g1', g2', c⟩)
                refine ⟨_, rfl, _, _, rfl, rfl, true, ?_, iteT ?_⟩
                · exact congrArg V.bl (decide_eq_true (show ((0 + j : Nat) : Int) ≥ (i : Int) by omega))
                exact ⟨_, rfl, .inl ⟨rfl, _, SqL.of ho8⟩, _, rfl, F5, .ref da, d, rfl, S8.same, kd, fun p np => ⟨o, acc, _, rfl, rfl, by rw [upd_ne (ne_of_none ho8 np)]; exact ho8, by rw [sizeLine_eq]; omega, fin v S8 ho8 p np⟩⟩
              · have nv : voidB line gone d = false := by
                  cases c' : voidB line gone d with
                  | false => rfl
                  | true =>
                    rcases vi.mp c' with z | ⟨j', e', z1, z2, z3⟩
                    · exact absurd z nm
                    · have e1 : (line.map name)[j]? = some (k, n) := by rw [List.getElem?_map, g1']; simp [g2']
                      have e2 : (line.map name)[j']? = some (k, n) := by rw [List.getElem?_map, z1]; simp [z2]
                      have := (List.getElem?_inj (i := j) (j := j') (List.getElem?_eq_some_iff.mp e1).1 nd).mp (by rw [e1, e2])
                      omega
                refine ⟨_, rfl, _, _, rfl, rfl, false, ?_, iteF ?_⟩
                · exact congrArg V.bl (decide_eq_false (show ¬ (((0 + j : Nat) : Int) ≥ (i : Int)) by omega))
                exact ⟨F5, _, _, _, sv, sl, acc, rfl, S8, m5, hsv, vs', by omega, keep nh, ho8, fo, by rw [no' nv]; exact hacc⟩
      · rintro σ H5 ⟨F5, y2, y3, y7, sv, sl, acc, rfl, S5, m5, hsv, vs', ls, hm, ho, fo, hacc⟩
        rw [pr_len hp, List.take_length] at hacc
        exact ⟨_, rfl, q F5 H5 o acc _ S5 no0 fo ho hacc rfl⟩
end
end Rw
namespace Rw
open PySem L2
/-! ### the law's deeds by their stamps -/
def stp (d : Deed) : Int × Int × Int := (d.t, d.h, d.n)
def spLawStamp : Sp := fun vs H Q _ => ∃ (F : Hp) (v : V) (d : Deed), vs = [v] ∧ Same F H ∧ kDeed.is F v d ∧ ∀ p, H p = none → Q (.ref p) (upd H p (.tup [.int d.t, .int d.h, .int d.n]))
structure TxG (mg : Str → Option Value) : Prop where
  dict : mg "dict" = none
  sorted : mg "sorted" = none
theorem k3_inj {a b : Int × Int × Int} (h : k3 a = k3 b) : a = b := by
  unfold k3 at h
  have h1 := List.cons.inj h
  have h2 := List.cons.inj h1.2
  have h3 := List.cons.inj h2.2
  exact Prod.ext (Sum.inl.inj h1.1) (Prod.ext (Sum.inl.inj h2.1) (Sum.inl.inj h3.1))
theorem stp_name {a b : Deed} (h : stp a = stp b) : name a = name b := by
  have h2 := congrArg Prod.snd h
  exact h2
theorem DVal.get {α : Type} {R : V → α → Prop} {key : α → List Key} {x : α} : ∀ {kvs : List (List Key × V)} {es : List α}, DVal R key kvs es → (es.map key).Nodup → x ∈ es → ∃ v, valV kvs (key x) = some v ∧ R v x
  | _, _, .nil, _, h => absurd h (by simp)
  | _, _, .cons (a := kv) (b := y) r t, nd, h => by
    rw [List.map_cons, List.nodup_cons] at nd
    rcases List.mem_cons.mp h with e | h
    · subst e
      exact ⟨kv.2, valV_pos r.1, r.2⟩
    · have ne : ¬ kv.1 = key x := fun e => nd.1 (by rw [← r.1, e]; exact List.mem_map.mpr ⟨x, h, rfl⟩)
      rw [valV_neg ne]
      exact DVal.get t nd.2 h
theorem DVal.keys {α : Type} {R : V → α → Prop} {key : α → List Key} : ∀ {kvs : List (List Key × V)} {es : List α}, DVal R key kvs es → kvs.map (·.1) = es.map key
  | _, _, .nil => rfl
  | _, _, .cons r t => by rw [List.map_cons, List.map_cons, DVal.keys t, r.1]
/-- all of some pairs put -/
theorem DVal.all {α : Type} {R : V → α → Prop} {key : α → List Key} : ∀ {ps : List PairE} {xs : List α} {kvs : List (List Key × V)} {es : List α}, Paired (fun (e : PairE) x => e.k = key x ∧ R e.v x) ps xs → DVal R key kvs es → (es.map key).Nodup → (∀ y ∈ es ++ xs, ∀ z ∈ es ++ xs, key y = key z → y = z) →
    ∃ es', DVal R key (ps.foldl (fun kvs e => putK kvs e.k e.v) kvs) es' ∧ (es'.map key).Nodup ∧ (∀ y, y ∈ es' ↔ y ∈ es ∨ y ∈ xs) ∧ es'.length ≤ es.length + xs.length
  | _, _, kvs, es, .nil, d, nd, _ => ⟨es, d, nd, fun y => by simp, by simp⟩
  | e :: ps, x :: xs, kvs, es, .cons r t, d, nd, u => by
    obtain ⟨es1, d1, n1, m1, l1⟩ := d.put nd r.2 fun y hy ey => u y (List.mem_append_left _ hy) x (List.mem_append_right _ List.mem_cons_self) ey
    rw [← r.1] at d1
    obtain ⟨es2, d2, n2, m2, l2⟩ := DVal.all t d1 n1 fun y hy z hz => by
      have g : ∀ y ∈ es1 ++ xs, y ∈ es ++ x :: xs := fun y hy => by
        rcases List.mem_append.mp hy with hy | hy
        · rcases (m1 y).mp hy with h | h
          · exact List.mem_append_left _ h
          · rw [h]; exact List.mem_append_right _ List.mem_cons_self
        · exact List.mem_append_right _ (List.mem_cons_of_mem _ hy)
      exact u y (g y hy) z (g z hz)
    refine ⟨es2, d2, n2, fun y => ?_, by rw [List.length_cons]; omega⟩
    rw [m2 y, m1 y, List.mem_cons, or_assoc]
theorem line_stp (es : List Deed) : (es.mergeSort fun a b => le3 (a.h, a.n, a.t) (b.h, b.n, b.t)).map stp = (es.map stp).mergeSort leT :=
  List.map_mergeSort fun a _ b _ => rfl
section
variable {P : Program} {w : World} {K : PySem.W.Frag} {mg : Str → Option Value} {base : Heap}
theorem ok_law_stamp {f : Addr} {fd : FuncData} (F0 : Fun K "_law_stamp" "_law_stamp" s_law_stamp f fd) : FnOk P w K mg base CX0 1 f fd ["_law_deed"] spLawStamp := by
  refine F0.ok sc_law_stamp (fun vs H Q E h => ?_) (fun cdv A outer s H vs Q E hr h => ?_)
  · obtain ⟨F, v, d, rfl, _⟩ := h
    rfl
  · obtain ⟨F, v, d, rfl, fh, ⟨a, u, rfl, ha, hw⟩, q⟩ := h
    have hH := fh _ _ ha
    refine ⟨_, pss_one (ps_ret (pe_tup (pa_cons (pe_ix ix_tup (pv 0) pe_int (fun _ _ => rfl)) (pa_cons (pe_ix ix_tup (pv 0) pe_int (fun _ _ => rfl)) (pa_cons (pe_ix ix_tup (pv 0) pe_int (fun _ _ => rfl)) pa_nil))))), ?_⟩
    exact ⟨_, rfl, a, _, 2, _, rfl, rfl, SqT.of hH, rfl, _, rfl, a, _, 0, _, rfl, rfl, SqT.of hH, rfl, _, rfl, a, _, 1, _, rfl, rfl, SqT.of hH, rfl, by show 3 ≤ sizeLine; decide, q⟩
def spLawSorted : Sp := fun vs H Q _ => ∃ (F : Hp) (v : V) (ds : List Deed), vs = [v] ∧ Same F H ∧ (kL kDeed).is F v ds ∧ Uniq ds ∧ ds.length ≤ 100000 ∧ RetL M0 F H kDeed (LineOf ds) Q
theorem ok_law_sorted {f : Addr} {fd : FuncData} (F0 : Fun K "_law_sorted" "_law_sorted" s_law_sorted f fd) (T : TxG mg) (CS : Cal P w K mg base 1 "_law_stamp" ["_law_deed"] spLawStamp) : FnOk P w K mg base CX0 4 f fd ["_law_deeds"] spLawSorted := by
  obtain ⟨f1, fd1, G1, g1, kp1, b1⟩ := CS
  refine F0.ok sc_law_sorted (fun vs H Q E h => ?_) (fun cdv A outer s H vs Q E hr h => ?_)
  · obtain ⟨F, v, ds, rfl, _⟩ := h
    rfl
  · obtain ⟨F, v, ds, rfl, fh, ⟨a, xs, rfl, ha, hp⟩, uq, l5, q⟩ := h
    have hr1 : Room 1 _ := hr.mono (by decide)
    have hu := hr.units
    have hu1 : (A.deeper (PyProof.Rows.envOfC "_law_sorted" (defScope s_law_sorted) s.heap.objs.size f cdv)).units + 1 < cLine := by have := hr.un; omega
    refine ⟨_, pss_cons (ps_set (i := 1) sc_law_sorted.nd rfl (.inr rfl) (pe_callTy (cr_dictG (by rfl) hu) (by rfl) T.dict (by decide +kernel) (pa_cons (pe_lc (own := [("_law_deed", 2)]) (g := gName 2) (tt := tYes) (te := tTup (tCons (tCall spLawStamp [] E0 (tCons (tVar 2) tNil)) (tCons (tVar 2) tNil))) (by rfl) sc_law_sorted.nd (pi_list (pv 0))
        (blkOk_by (own := [("_law_deed", 2)]) (N := ["_law_deeds", "_law_known", "_law_deed", "_law_stamp_here"]) (sc := defScope s_law_sorted) (by decide +kernel)) (fun _ _ _ _ _ => pg_name (i := 2) sc_law_sorted.nd rfl (.inl rfl)) (fun _ _ _ _ _ => pts_nil)
        (fun _ _ _ _ _ => pe_tup (pa_cons (pe_call G1 hr1 (by rfl) g1 kp1 b1 .nil pass0 (pa_cons (pv 2) pa_nil)) (pa_cons (pv 2) pa_nil)))) pa_nil)))
      (pss_one (ps_ret (pe_lc (own := [("_law_stamp_here", 3)]) (g := gName 3) (tt := tYes) (te := tDGet (tVar 1) (tVar 3)) (by rfl) sc_law_sorted.nd (pi_list (pe_callB (cr_sortedD3 hr) (by rfl) T.sorted (by decide +kernel) (pa_cons (pv 1) pa_nil)))
        (blkOk_by (own := [("_law_stamp_here", 3)]) (N := ["_law_deeds", "_law_known", "_law_deed", "_law_stamp_here"]) (sc := defScope s_law_sorted) (by decide +kernel)) (fun _ _ _ _ _ => pg_name (i := 3) sc_law_sorted.nd rfl (.inl rfl)) (fun _ _ _ _ _ => pts_nil)
        (fun _ _ _ _ _ => pe_dget hu1 (pv 1) (pv 3) (fun _ _ => rfl))))), ?_⟩
    refine ⟨_, rfl, a, rfl, ⟨xs, SqL.of (fh _ _ ha)⟩, fun D nD => ?_⟩
    have fD := fh.free nD
    refine it_by (walk_list (K := K) (a := a) (xs := xs)) (fun i H' => ∃ (F' : Hp) (es : List PairE), Ext M0 F H F' H' ∧ H' D = some (.lst (es.map fun e => V.ref e.t)) ∧ F' D = none ∧ (∀ e ∈ es, F' e.t = some (.tup [.ref e.ka, e.v]) ∧ F' e.ka = some (.tup (e.k.map kV))) ∧ es.length = i ∧ Paired (fun (e : PairE) (d : Deed) => e.k = k3 (stp d) ∧ kDeed.is F e.v d) es (ds.take i))
      ⟨F, [], (Ext.refl fh).tmp nD, upd_same, fD, fun e h => absurd h (by simp), rfl, .nil⟩ (fun i H' _ ⟨_, _, X, _⟩ => SqL.of (X.fh _ _ (X.ff _ _ ha))) ?_ ?_
    · rintro j x _ H1 hj ⟨F1, es, X1, hD, fD1, hes, hl, hpe⟩ ⟨rfl, hx⟩
      obtain ⟨d, hd, hxd⟩ := pr_get hp hx
      have eT : ds.take (j + 1) = ds.take j ++ [d] := by rw [List.take_add_one, hd]; rfl
      refine ⟨rfl, _, rfl, F1, x, d, rfl, X1.fh, kDeed.mono X1.ff hxd, fun p np => ?_⟩
      have Dp : D ≠ p := ne_of_none hD np
      have X2 := X1.lay (o := .tup [.int d.t, .int d.h, .int d.n]) np
      have hD2 : upd H1 p (.tup [.int d.t, .int d.h, .int d.n]) D = some (.lst (es.map fun e => V.ref e.t)) := by rw [upd_ne Dp]; exact hD
      refine ⟨_, rfl, by show 2 ≤ sizeLine; decide, fun t nt => ?_⟩
      have Dt : D ≠ t := ne_of_none hD2 nt
      have pt : p ≠ t := ne_of_none upd_same nt
      have X3 := X2.lay (o := .tup [.ref p, x]) nt
      have fD3 : upd (upd F1 p (.tup [.int d.t, .int d.h, .int d.n])) t (.tup [.ref p, x]) D = none := by rw [upd_ne Dt, upd_ne Dp]; exact fD1
      have sm : Same F1 (upd (upd F1 p (.tup [.int d.t, .int d.h, .int d.n])) t (.tup [.ref p, x])) := (same_upd (X1.ffree np)).trans (same_upd (X2.ffree nt))
      have lx := pr_len hp
      have jx : j < ds.length := (List.getElem?_eq_some_iff.mp hd).1
      refine ⟨_, by rw [upd_ne Dt]; exact hD2, by rw [List.length_map, hl, sizeLine_eq]; omega, ?_⟩
      refine ⟨_, es ++ [⟨t, p, k3 (stp d), x⟩], X3.put (.inl nD) fD3, by rw [upd_same, List.map_append]; rfl, fD3, fun e he => ?_, by simp [hl], ?_⟩
      · rcases List.mem_append.mp he with he | he
        · exact ⟨sm _ _ (hes e he).1, sm _ _ (hes e he).2⟩
        · rw [List.mem_singleton.mp he]
          exact ⟨upd_same, by rw [upd_ne pt]; exact upd_same⟩
      · rw [eT]
        exact Paired.snoc hpe ⟨rfl, hxd⟩
    · rintro H1 ⟨F1, es, X1, hD, fD1, hes, hl, hpe⟩
      rw [pr_len hp, List.take_length] at hpe
      refine ⟨D, es, rfl, hD, fun e he => ⟨X1.fh _ _ (hes e he).1, X1.fh _ _ (hes e he).2⟩, fun dk ndk => ?_⟩
      have X2 := X1.tmp (o := .dT (putAll es)) ndk
      have hdk : upd H1 dk (.dT (putAll es)) dk = some (.dT (putAll es)) := upd_same
      revert X2 hdk
      generalize upd H1 dk (.dT (putAll es)) = H2
      intro X2 hdk
      obtain ⟨es', dv, nd, mm, ll⟩ := DVal.all (kvs := []) (es := []) hpe .nil .nil fun y hy z hz e => uq y (by simpa using hy) z (by simpa using hz) (stp_name (k3_inj e))
      have mm' : ∀ y, y ∈ es' ↔ y ∈ ds := fun y => by rw [mm y]; simp
      have nd3 : (es'.map stp).Nodup := by
        have : es'.map (fun d => k3 (stp d)) = (es'.map stp).map k3 := by rw [List.map_map]; rfl
        rw [this] at nd
        exact (List.pairwise_map.mp nd).imp fun h e => h (by rw [e])
      have ndn : (es'.map fun d => kk (name d)).Nodup := by
        refine List.pairwise_map.mpr ((List.pairwise_map.mp nd3).imp_of_mem fun {a b} ha hb h e => h ?_)
        rw [uq a ((mm' a).mp ha) b ((mm' b).mp hb) (kk_inj e)]
      have hline := line_sort ndn mm'
      have eS := line_stp es'
      have lline : (es'.mergeSort fun a b => le3 (a.h, a.n, a.t) (b.h, b.n, b.t)).length ≤ 100000 := by
        rw [(List.mergeSort_perm _ _).length_eq]
        have : es'.length ≤ ds.length := by simpa using ll
        omega
      have inl : ∀ d ∈ (es'.mergeSort fun a b => le3 (a.h, a.n, a.t) (b.h, b.n, b.t)), d ∈ es' := fun d hd => (List.mergeSort_perm _ _).mem_iff.mp hd
      revert hline eS lline inl
      generalize (es'.mergeSort fun a b => le3 (a.h, a.n, a.t) (b.h, b.n, b.t)) = line
      intro hline eS lline inl
      refine ⟨_, rfl, dk, putAll es, es'.map stp, rfl, hdk, by rw [show (putAll es).map (·.1) = es'.map (fun d => k3 (stp d)) from dv.keys, List.map_map]; rfl, fun ys p hys np => ?_⟩
      rw [← eS] at hys
      have pk : dk ≠ p := ne_of_none hdk np
      have X3 := X2.tmp (o := .lst ys) np
      have hp3 : upd H2 p (.lst ys) p = some (.lst ys) := upd_same
      have hdk3 : upd H2 p (.lst ys) dk = some (.dT (putAll es)) := by rw [upd_ne pk]; exact hdk
      have hys3 : Paired (kTri.is (upd H2 p (.lst ys))) ys (line.map stp) := pr_mono (fun _ _ z => kTri.mono (same_upd np) z) hys
      revert X3 hp3 hdk3 hys3
      generalize upd H2 p (.lst ys) = H3
      intro X3 hp3 hdk3 hys3
      refine ⟨p, rfl, ⟨ys, SqL.of hp3⟩, fun O nO => ?_⟩
      have HO : H O = none := X3.free nO
      have FO : F1 O = none := X3.ffree nO
      refine it_by (walk_list (K := K) (a := p) (xs := ys)) (fun i H' => ∃ (acc : List V), Ext M0 F1 H3 F1 H' ∧ H' O = some (.lst acc) ∧ Paired (kDeed.is F1) acc (line.take i))
        ⟨[], (Ext.refl X3.fh).tmp nO, upd_same, .nil⟩ (fun i H' _ ⟨_, X, _⟩ => SqL.of (X.same _ _ hp3)) ?_ ?_
      · rintro j x _ H4 hj ⟨acc, X4, hO, hac⟩ ⟨rfl, hx⟩
        obtain ⟨st, hst, t, rfl, ht⟩ := pr_get hys3 hx
        rw [List.getElem?_map] at hst
        cases hd : line[j]? with
        | none => rw [hd] at hst; cases hst
        | some d =>
          rw [hd] at hst
          cases hst
          have dm := List.mem_of_getElem? hd
          obtain ⟨v, hv, rv⟩ := dv.get nd (inl d dm)
          refine ⟨rfl, _, rfl, _, rfl, dk, v, rfl, hv ▸ DGet.t (k := k3 (stp d)) (X4.same _ _ hdk3) (X4.same _ _ ht), ?_⟩
          have la : acc.length ≤ 100000 := by
            rw [pr_len hac]
            exact Nat.le_trans (List.length_take_le' j line) lline
          refine ⟨acc, hO, by rw [sizeLine_eq]; omega, acc ++ [v], X4.put (.inl nO) FO, upd_same, ?_⟩
          rw [List.take_add_one, hd]
          exact pr_snoc hac (kDeed.mono X1.ff rv)
      · rintro H4 ⟨acc, X4, hO, hac⟩
        rw [pr_len hys3, List.length_map, List.take_length] at hac
        exact q F1 H4 O acc line (X3.trans X4) HO FO hO hac hline
end
end Rw
namespace Rw
open PySem PySem.Spec PySem.Calls PyProof.Rows L2
/-! ### list(d.values()), max(xs, default=k) -/
section
variable {X : Cx}
def rListVals : List V → Hp → VK → Prop := fun xs H Q => ∃ (p d : Addr) (kvs : List (List Key × V)), xs = [.ref p] ∧ H p = some (vwO p d) ∧ H d = some (.dT kvs) ∧ ∀ q, H q = none → Q (.ref q) (upd H q (.lst (kvs.map (·.2))))
theorem cr_listVals (hc : X.calm = true) : CallR X (.type "list") rListVals := by
  intro pins s σ H xs us Q I r h
  obtain ⟨p, d, kvs, rfl, hp, hd, q⟩ := h
  obtain rfl := Vals.ref1 r
  obtain ⟨z, sm, ks, kt, o, es, ep, ho, hx, hdt, he, hn⟩ := (show ObjOk X.prog X.w H s.heap d (.dT kvs) from I.hok d _ hd)
  have hv := (show ObjOk X.prog X.w H s.heap p (vwO p d) from I.hok p _ hp).1
  have l1 : es.size = ks.length := size_of_entries he
  have l2 : kvs.length = ks.length := Paired.length kt
  refine PySem.W.kdl_call (PySem.KdlSrc.rawValues (prog := X.prog) (w := X.w) (r := p) (d := d) (es := es) (ep := ep)) (I.ok.hd hc) ⟨⟨_, hv, rfl, rfl⟩, o, ho, hx, hdt⟩ (by omega) fun h' tk acc c hk hS it => ?_
  have ev : acc.toList = ks.map (·.2.2) := by
    apply List.ext_getElem?
    intro j
    rw [List.getElem?_map]
    have hl : acc.toList.length = ks.length := by rw [Array.length_toList, it.1]; exact l1
    cases hj : acc.toList[j]? with
    | none => rw [List.getElem?_eq_none (by have := List.getElem?_eq_none_iff.mp hj; omega)]; rfl
    | some v =>
      obtain ⟨hi, hval⟩ := it.2 j v (by rw [← Array.getElem?_toList]; exact hj)
      have qe := entry_at he j
      rw [Array.getElem?_eq_getElem hi] at qe
      cases hb : ks[j]? with
      | none => rw [hb] at qe; exact nomatch (show some es[j] = none from qe)
      | some b =>
        rw [hb] at qe
        have e2 : es[j] = entryOfKey (tupleKind (mixKind X.prog X.w)) b := Option.some.inj qe
        rw [hval, e2]
        rfl
  have rv := kt_vals kt
  rw [← ev] at rv
  have few : (kvs.map (·.2)).length ≤ sizeLine := by rw [List.length_map]; exact z
  exact ⟨.ref s.heap.objs.size, _, I.laid (t' := tk) hk (Nat.le_refl _) (show ObjOk X.prog X.w _ h' _ (.lst (kvs.map (·.2))) from ⟨few, acc.toList, c, rv, hS⟩), rfl, q _ (I.hok.fresh (Nat.le_refl _))⟩
def topOf (k : Int) : List Int → Int
  | [] => k
  | [x] => x
  | x :: y :: ys => max x (topOf k (y :: ys))
theorem topOf_ge {k : Int} : ∀ {xs : List Int} {x : Int}, x ∈ xs → x ≤ topOf k xs
  | [y], x, h => by rw [List.mem_singleton.mp h]; exact Int.le_refl _
  | y :: z :: zs, x, h => by
    show x ≤ max y (topOf k (z :: zs))
    rcases List.mem_cons.mp h with e | h
    · rw [e]; exact Int.le_max_left _ _
    · exact Int.le_trans (topOf_ge h) (Int.le_max_right _ _)
theorem topOf_in {k : Int} : ∀ {xs : List Int}, xs ≠ [] → topOf k xs ∈ xs
  | [], h => absurd rfl h
  | [y], _ => List.mem_singleton.mpr rfl
  | y :: z :: zs, _ => by
    show max y (topOf k (z :: zs)) ∈ _
    rcases Int.le_total y (topOf k (z :: zs)) with c | c
    · rw [Int.max_eq_right c]; exact List.mem_cons_of_mem _ (topOf_in (by simp))
    · rw [Int.max_eq_left c]; exact List.mem_cons_self
theorem topOf_uniq {k : Int} {xs : List Int} {m : Int} (h : m ∈ xs) (g : ∀ x ∈ xs, x ≤ m) : m = topOf k xs :=
  Int.le_antisymm (topOf_ge h) (g _ (topOf_in (by intro e; rw [e] at h; cases h)))
def rMaxD (K : PySem.W.Frag) : List V → List V → Hp → VK → Prop := fun vs zs H Q => ∃ (a : Addr) (ns : List Int) (k : Int), vs = [.ref a] ∧ zs = [.int k] ∧ SqL K H a (ns.map V.int) ∧ Q (.int (topOf k ns)) H
theorem reads_ints {h : Heap} : ∀ {its : List Value} {ns : List Int}, IntsAre its ns → ReadsAll h its (ns.map PyData.int) []
  | _, _, .nil => .nil
  | _, _, .cons n t r => .cons (as := []) (bs := []) (.int n t) (reads_ints r)
theorem alike_intsAll (ns : List Int) : PySem.W.AlikeAll (ns.map PyData.int) := by
  refine ⟨fun x hx y hy => ?_, fun x hx => ?_⟩
  · obtain ⟨a, _, rfl⟩ := List.mem_map.mp hx
    obtain ⟨b, _, rfl⟩ := List.mem_map.mp hy
    rfl
  · obtain ⟨a, _, rfl⟩ := List.mem_map.mp hx
    exact fun e => by cases e
theorem maxD_int (y : Int) : ∀ ys : List Int, PySem.W.maxD (.int y) (ys.map PyData.int) = .int (topOf 0 (y :: ys)) := by
  have g : ∀ (ys : List Int) (a : Int), (ys.map PyData.int).foldl (fun a y => if PySem.W.dataLt a y then y else a) (.int a) = .int (topOf 0 (a :: ys)) := by
    intro ys
    induction ys with
    | nil => intro a; rfl
    | cons z zs ih =>
      intro a
      rw [List.map_cons, List.foldl_cons, PySem.W.dataLt_int]
      by_cases c : a < z
      · rw [decide_eq_true c, if_pos rfl, ih]
        show _ = PyData.int (max a (topOf 0 (z :: zs)))
        rw [Int.max_eq_right (Int.le_trans (Int.le_of_lt c) (topOf_ge List.mem_cons_self))]
      · rw [decide_eq_false c, if_neg (by simp), ih]
        congr 1
        refine (topOf_uniq (m := topOf 0 (a :: zs)) ?_ ?_)
        · have := topOf_in (k := 0) (xs := a :: zs) (by simp)
          rcases List.mem_cons.mp this with e | h
          · rw [e]; exact List.mem_cons_self
          · exact List.mem_cons_of_mem _ (List.mem_cons_of_mem _ h)
        · intro x hx
          rcases List.mem_cons.mp hx with e | h
          · rw [e]; exact topOf_ge List.mem_cons_self
          · rcases List.mem_cons.mp h with e | h
            · rw [e]; exact Int.le_trans (Int.not_lt.mp c) (topOf_ge List.mem_cons_self)
            · exact topOf_ge (List.mem_cons_of_mem _ h)
  intro ys
  exact g ys y
theorem cr_maxD (hr : Room 3 X.A) : CallRK X (.builtin "max") [Str.ofString "default"] (rMaxD X.K) := by
  intro pins s σ H vs zs us ws Q I r rz h
  obtain ⟨a, ns, k, rfl, rfl, hs, q⟩ := h
  obtain rfl := Vals.ref1 r
  obtain ⟨u, rfl, t, rfl⟩ : ∃ u, ws = [u] ∧ ∃ t, u = .int k t := by
    cases rz with
    | cons a b => cases b; exact ⟨_, rfl, a⟩
  obtain ⟨its, rv, pl, _⟩ := I.list hs
  have hi : IntsAre its ns := rv.ints
  refine PySem.W.max_list_default (xs := ns.map PyData.int) hr.hd pl.isList (reads_ints hi) (alike_intsAll ns) ?_ (fun e h' tk kp => ?_) (fun y ys i v h' tk bs e hv rd kp => ?_)
  · have hd : PyData.depthAll (ns.map PyData.int) = 0 := PySem.W.depth_ints ns
    have := hr.un
    omega
  · have en : ns = [] := List.map_eq_nil_iff.mp e
    subst en
    exact ⟨.int k, H, I.kept kp, ⟨t, rfl⟩, q⟩
  · cases ns with
    | nil => simp at e
    | cons n ns =>
      rw [List.map_cons] at e
      obtain ⟨rfl, rfl⟩ := List.cons.inj e
      rw [maxD_int] at rd
      cases rd with
      | int _ t' =>
        have ek : topOf k (n :: ns) = topOf 0 (n :: ns) := topOf_uniq (topOf_in (by simp)) fun x hx => topOf_ge hx
        rw [ek] at q
        exact ⟨.int _, H, I.kept kp, ⟨t', rfl⟩, q⟩
end
end Rw
namespace Rw
open PySem L2
open GxR (TabB TabG Tabbed)
/-! ### what is taken back, what stands, the worths -/
def HasB (kvs : List (List Key × V)) (p : Pt) : Bool := (valV kvs (kk p)).isSome
theorem has_put (kvs : List (List Key × V)) (q p : Pt) (v : V) : HasB (putK kvs (kk q) v) p = (decide (p = q) || HasB kvs p) := by
  unfold HasB
  rw [valV_put]
  by_cases e : p = q
  · rw [if_pos (by rw [e]), e]; simp
  · rw [if_neg fun z => e (kk_inj z)]; simp [e]
/-- a dict of such names -/
def NamesD (kvs : List (List Key × V)) (ps : List Pt) : Prop := ∀ p, HasB kvs p = decide (p ∈ ps)
theorem NamesD.nil : NamesD [] [] := fun p => by simp [HasB, valV]
theorem NamesD.put {kvs : List (List Key × V)} {ps qs : List Pt} {q : Pt} {v : V} (h : NamesD kvs ps) (m : ∀ p, p ∈ qs ↔ p = q ∨ p ∈ ps) : NamesD (putK kvs (kk q) v) qs := fun p => by
  rw [has_put, h p]
  by_cases a : p = q <;> by_cases b : p ∈ ps <;> simp [m, a, b]
theorem takenL_mem {V : List Pt} {p : Pt} : ∀ {l : List Deed}, p ∈ takenL V l → ∃ d ∈ l, tgt d.w = some p
  | [], h => absurd h (by simp [takenL])
  | d :: l, h => by
    unfold takenL at h
    cases e : tgt d.w with
    | none =>
      rw [e] at h
      obtain ⟨x, hx, z⟩ := takenL_mem (l := l) h
      exact ⟨x, List.mem_cons_of_mem _ hx, z⟩
    | some q =>
      rw [e] at h
      dsimp only at h
      by_cases c : name d ∉ V ∧ name d ∉ takenL V l
      · rw [if_pos c] at h
        rcases List.mem_cons.mp h with rfl | h
        · exact ⟨d, List.mem_cons_self, e⟩
        · obtain ⟨x, hx, z⟩ := takenL_mem (l := l) h
          exact ⟨x, List.mem_cons_of_mem _ hx, z⟩
      · rw [if_neg c] at h
        obtain ⟨x, hx, z⟩ := takenL_mem (l := l) h
        exact ⟨x, List.mem_cons_of_mem _ hx, z⟩
def spTakenIn (Pc : Addr) : Sp := fun vs H Q _ => ∃ (F : Hp) (v g : V) (line : List Deed) (gone : List Row), vs = [v, g] ∧ Same F H ∧ (kL kDeed).is F v line ∧ (kL kRow).is F g gone ∧ Line line ∧ Valid gone ∧ gone.length ≤ 10000 ∧ TabG H Pc ∧ F Pc = none ∧
  ∀ (F' H' : Hp) (d : Addr) (kvs : List (List Key × V)), GS Pc F H F' H' → F' d = some (.dT kvs) → NamesD kvs (takenOf line gone) → Q (.ref d) H'
def spStanding (Pc : Addr) : Sp := fun vs H Q _ => ∃ (F : Hp) (v g : V) (line : List Deed) (gone : List Row), vs = [v, g] ∧ Same F H ∧ (kL kDeed).is F v line ∧ (kL kRow).is F g gone ∧ Line line ∧ Valid gone ∧ gone.length ≤ 10000 ∧ TabG H Pc ∧ F Pc = none ∧ RetP Pc F H kDeed (· = standOf line gone) Q
def spBehind (Pc : Addr) : Sp := fun vs H Q _ => ∃ (F : Hp) (u v g : V) (b : List Int) (line : List Deed) (gone : List Row), vs = [u, v, g] ∧ Same F H ∧ (kL kInt).is F u b ∧ b.length = 6 ∧ (kL kDeed).is F v line ∧ (kL kRow).is F g gone ∧ Line line ∧ Valid gone ∧ gone.length ≤ 10000 ∧ TabG H Pc ∧ F Pc = none ∧ RetP Pc F H kInt (· = worthsOf b line gone) Q
structure TxT (mg : Str → Option Value) : Prop where
  reversed : mg "reversed" = none
section
variable {P : Program} {w : World} {K : PySem.W.Frag} {mg : Str → Option Value} {base : Heap}
set_option maxHeartbeats 2000000 in
theorem ok_taken_in {f Pc : Addr} {fd : FuncData} (F0 : Fun K "taken_in" "taken_in" s_taken_in f fd) (T : TxT mg) (CV : Cal P w K mg base 4 "void_in" ["line", "gone"] (spVoidIn Pc)) (CN : Cal P w K mg base 1 "name_of" ["deed"] spNameOf) (CW : Cal P w K mg base 1 "word_of" ["deed"] spWordOf) :
    FnOk P w K mg base CX0 5 f fd ["line", "gone"] (spTakenIn Pc) := by
  obtain ⟨f1, fd1, G1, g1, kp1, b1⟩ := CV
  obtain ⟨f2, fd2, G2, g2, kp2, b2⟩ := CN
  obtain ⟨f3, fd3, G3, g3, kp3, b3⟩ := CW
  refine F0.ok sc_taken_in (fun vs H Q E h => ?_) (fun cdv A outer s H vs Q E hr h => ?_)
  · obtain ⟨F, v, g, line, gone, rfl, _⟩ := h
    rfl
  · obtain ⟨F, v, g, line, gone, rfl, fh, ⟨a, xs, rfl, ha, hp⟩, hg, L, vg, lg, tab, fP, q⟩ := h
    have hr1 : Room 1 _ := hr.mono (by decide)
    have hu := hu_of hr
    refine ⟨_, pss_cons (ps_setDcT (i := 3) (own := [("name", 2)]) (g := gName 2) (tt := tYes) (tk := tVar 2) (tv := tC (.bl true)) (by rfl) hu sc_taken_in.nd rfl rfl (sw_dict rfl rfl rfl (by decide +kernel)) (pi_list (pe_call G1 hr (by rfl) g1 kp1 b1 .nil pass0 (pa_cons (pv 0) (pa_cons (pv 1) pa_nil))))
        (blkOk_by (own := [("name", 2)]) (N := ["line", "gone", "name", "void_names", "taken", "deed"]) (sc := defScope s_taken_in) (by decide +kernel)) (fun _ _ _ _ _ => pg_name (i := 2) sc_taken_in.nd rfl (.inl rfl)) (fun _ _ _ _ _ => pts_nil)
        (fun _ _ _ _ _ => pv 2) (fun _ _ _ _ _ => pe_bl))
      (pss_cons (ps_set (i := 4) sc_taken_in.nd rfl (.inl rfl) pe_dnewT)
      (pss_cons (ps_for PassesOwn.never rfl (pi_reversed (by rfl) T.reversed (pa_cons (pv 0) pa_nil)) (pg_name (i := 5) sc_taken_in.nd rfl (.inl rfl))
        (pss_cons (ps_set (i := 2) sc_taken_in.nd rfl (.inl rfl) (pe_call G2 hr1 (by rfl) g2 kp2 b2 .nil pass0 (pa_cons (pv 5) pa_nil)))
        (pss_one (ps_if (PW.pt (pw_and (pt_cmpR op_eq (pe_call G3 hr1 (by rfl) g3 kp3 b3 .nil pass0 (pa_cons (pv 5) pa_nil)) pe_str (nomark _))
            (pw_and (pt_cmp (pc_dnotin hu (pv 2) (pv 3)) (by rfl)) (pw_and1 (pt_cmp (pc_dnotin hu (pv 2) (pv 4)) (by rfl))))))
          (pss_one (ps_dput hu (pv 4) (pe_slice sl_tup (pe_ix ix_tup (pv 5) pe_int (fun _ _ => rfl)) (po_some pe_int) po_none) pe_bl rfl)) pss_nil))))
      (pss_one (ps_ret (pv 4))))), ?_⟩
    have l4 := L.few
    have S0 := GS.start fh tab fP
    refine ⟨_, rfl, _, rfl, F, .ref a, g, line, gone, rfl, fh, ⟨a, xs, rfl, ha, hp⟩, hg, L, vg, lg, tab, fP, fun F1 H1 va vvs V' S1 na fa hva pva eV => ?_⟩
    subst eV
    have S2 := S1.frz na fa hva
    have hva2 : upd F1 va (.lst vvs) va = some (.lst vvs) := upd_same
    have pva2 := pr_mono (fun _ _ z => kPt.mono (same_upd (o := .lst vvs) fa) z) pva
    have m2 : Same F (upd F1 va (.lst vvs)) := S2.ext.ff
    revert S2 hva2 pva2 m2
    generalize upd F1 va (.lst vvs) = F2
    intro S2 hva2 pva2 m2
    clear S1 na fa pva hva
    generalize hV : voidsOf line gone = Vd at pva2
    have lV : Vd.length ≤ 400 := by
      rw [← hV]
      unfold voidsOf
      rw [List.length_map]
      exact Nat.le_trans (List.length_filter_le _ _) l4
    refine ⟨va, rfl, ⟨_, SqL.of (S2.same _ _ hva2)⟩, fun D nD => ?_⟩
    refine it_by (walk_list (K := K) (a := va) (xs := vvs)) (fun i H' => ∃ kvs, Ext M0 F2 H1 F2 H' ∧ H' D = some (.dT kvs) ∧ NamesD kvs (Vd.take i) ∧ kvs.length ≤ i)
      ⟨[], (Ext.refl S2.same).tmp nD, upd_same, NamesD.nil, Nat.le_refl _⟩ (fun i H' _ ⟨_, X, _⟩ => SqL.of (X.fh _ _ hva2)) ?_ ?_
    · rintro i x _ H2 hi ⟨kvs, X2, hD, nm, lk⟩ ⟨rfl, hx⟩
      obtain ⟨p, hpi, tp, rfl, htp⟩ := pr_get pva2 hx
      have i4 : i < 400 := by have := (List.getElem?_eq_some_iff.mp hpi).1; omega
      refine ⟨rfl, _, rfl, kvs, kk p, tp, rfl, X2.fh _ _ htp, hD, by rw [sizeLine_eq]; omega, _, X2.put (.inl nD) (S2.same.free nD), upd_same, nm.put fun z => ?_, ?_⟩
      · rw [List.take_add_one, hpi, List.mem_append]
        simp only [Option.toList_some, List.mem_singleton]
        exact or_comm
      · exact Nat.le_trans (length_putK _ _ _) (by omega)
    · rintro H2 ⟨kvsV, X2, hD, nmV, lk⟩
      rw [pr_len pva2, List.take_length] at nmV
      have S3 := S2.step (X2.frz nD (S2.same.free nD) hD)
      have m3 : Same F2 (upd F2 D (.dT kvsV)) := same_upd (S2.same.free nD)
      have hDV : upd F2 D (.dT kvsV) D = some (.dT kvsV) := upd_same
      revert S3 m3 hDV
      generalize upd F2 D (.dT kvsV) = F3
      intro S3 m3 hDV
      clear X2 hD nD
      replace m3 := m2.trans m3
      intro t nt
      have nt0 := S3.ext.free nt
      have S4 := S3.tmp (o := .dT []) nt
      have tne : ∀ {H' : Hp} {kvs : List (List Key × V)}, GS Pc F H F3 H' → H' t = some (.dT kvs) → t ≠ Pc := fun S e z => by
        obtain ⟨pp, hp', _⟩ := S.tab
        rw [z, hp'] at e; cases e
      refine ⟨_, rfl, a, xs, rfl, SqL.of (S4.same _ _ (m3 _ _ ha)), for_it (walk_rev (K := K) (a := a) (xs := xs)) (fun i σ H' => ∃ (y2 y5 : Option V) (kvs : List (List Key × V)), σ = [some (.ref a), some g, y2, some (.ref D), some (.ref t), y5] ∧ GS Pc F H F3 H' ∧ H' t = some (.dT kvs) ∧ NamesD kvs (takenL Vd (line.drop (line.length - i))) ∧ kvs.length ≤ i)
        ⟨_, _, [], rfl, S4, upd_same, by rw [Nat.sub_zero, List.drop_length]; exact NamesD.nil, Nat.le_refl _⟩ (fun i σ H' _ ⟨_, _, _, _, S, _⟩ => SqL.of (S.same _ _ (m3 _ _ ha))) ?_ ?_⟩
      · rintro i x σ _ H5 hi ⟨y2, y5, kvs, rfl, S5, ht, nm, lk⟩ ⟨rfl, hx⟩
        obtain ⟨d, hd, hdv⟩ := pr_get hp hx
        rw [pr_len hp] at hi hd
        have kd := kDeed.mono m3 hdv
        have eD : line.drop (line.length - (i + 1)) = d :: line.drop (line.length - i) := by
          have e1 : line.length - (i + 1) = line.length - 1 - i := by omega
          obtain ⟨h1, h2⟩ := List.getElem?_eq_some_iff.mp hd
          rw [e1, List.drop_eq_getElem_cons h1, h2, show line.length - 1 - i + 1 = line.length - i by omega]
        refine ⟨_, rfl, F3, x, d, rfl, S5.same, kd, fun np nnp => ?_⟩
        have S6 := S5.tmp (o := .tup [.int d.h, .int d.n]) nnp
        have ht6 : upd H5 np (.tup [.int d.h, .int d.n]) t = some (.dT kvs) := by rw [upd_ne (ne_of_none ht nnp)]; exact ht
        have hnp6 : upd H5 np (.tup [.int d.h, .int d.n]) np = some (.tup [.int d.h, .int d.n]) := upd_same
        revert S6 ht6 hnp6
        generalize upd H5 np (.tup [V.int d.h, .int d.n]) = H6
        intro S6 ht6 hnp6
        obtain ⟨da, u, rfl, hda, hu'⟩ := id kd
        refine ⟨_, rfl, F3, .ref da, d, rfl, S6.same, kd, ?_⟩
        have same' : (∀ p, tgt d.w = some p → ¬ (name d ∉ Vd ∧ name d ∉ takenL Vd (line.drop (line.length - i)))) → takenL Vd (line.drop (line.length - (i + 1))) = takenL Vd (line.drop (line.length - i)) := fun h => by
          rw [eD]
          show (match tgt d.w with | some p => _ | none => _) = _
          cases e : tgt d.w with
          | none => rfl
          | some p => exact if_neg (h p e)
        by_cases isb : ∃ k n, d.w = .back k n
        · obtain ⟨k, n, hw⟩ := isb
          refine ⟨rfl, true, by rw [hw]; exact congrArg V.bl (decide_eq_true rfl), iteT ?_⟩
          refine ⟨_, rfl, _, rfl, D, _, rfl, DGet.t (k := kk (name d)) (S6.same _ _ hDV) hnp6, ?_⟩
          rw [show (valV kvsV (kk (name d))).isSome = decide (name d ∈ Vd) from nmV (name d)]
          by_cases c1 : name d ∈ Vd
          · rw [decide_eq_true c1]
            refine ⟨_, rfl, iteF (iteF ⟨_, _, kvs, rfl, S6, ht6, ?_, by omega⟩)⟩
            rw [same' fun p _ z => z.1 c1]; exact nm
          · rw [decide_eq_false c1]
            refine ⟨_, rfl, iteT ⟨_, rfl, _, rfl, t, _, rfl, DGet.t (k := kk (name d)) ht6 hnp6, ?_⟩⟩
            rw [show (valV kvs (kk (name d))).isSome = decide (name d ∈ takenL Vd (line.drop (line.length - i))) from nm (name d)]
            by_cases c2 : name d ∈ takenL Vd (line.drop (line.length - i))
            · rw [decide_eq_true c2]
              refine ⟨_, rfl, iteF ⟨_, _, kvs, rfl, S6, ht6, ?_, by omega⟩⟩
              rw [same' fun p _ z => z.2 c2]; exact nm
            · rw [decide_eq_false c2]
              rw [hw] at hu'
              obtain ⟨wa, rfl, hwa⟩ := hu'
              refine ⟨_, rfl, iteT ⟨_, rfl, _, rfl, da, _, 3, _, rfl, rfl, SqT.of (S6.same _ _ hda), rfl, 1, rfl, wa, _, rfl, SqT.of (S6.same _ _ hwa), by simp [HT.sIx], fun p np' => ?_⟩⟩
              have S7 := S6.tmp (o := .tup (cutV [.str "back", .int k, .int n] (some 1) none)) np'
              have ht7 : upd H6 p (.tup (cutV [.str "back", .int k, .int n] (some 1) none)) t = some (.dT kvs) := by rw [upd_ne (ne_of_none ht6 np')]; exact ht6
              have hp7 : upd H6 p (.tup (cutV [.str "back", .int k, .int n] (some 1) none)) p = some (.tup [.int k, .int n]) := upd_same
              revert S7 ht7 hp7
              generalize upd H6 p (.tup (cutV [V.str "back", .int k, .int n] (some 1) none)) = H7
              intro S7 ht7 hp7
              refine ⟨t, _, rfl, DPut.t (k := kk (k, n)) ht7 hp7 (by rw [sizeLine_eq]; omega), _, _, _, rfl, ?_, upd_same, nm.put fun z => ?_, Nat.le_trans (length_putK _ _ _) (by omega)⟩
              · obtain ⟨pp, hp', ht'⟩ := S7.tab
                exact ⟨S7.ext.put (.inl nt0) (S3.same.free nt), ⟨pp, by rw [upd_ne (tne S7 ht7).symm]; exact hp', ht'⟩, S7.fP⟩
              · rw [eD]
                show z ∈ (match tgt d.w with | some p => _ | none => _) ↔ _
                rw [hw]
                show z ∈ (if name d ∉ Vd ∧ name d ∉ takenL Vd (line.drop (line.length - i)) then (k, n) :: takenL Vd (line.drop (line.length - i)) else takenL Vd (line.drop (line.length - i))) ↔ _
                rw [if_pos ⟨c1, c2⟩, List.mem_cons]
        · have ne : V.str (word d.w) ≠ V.str "back" := by
            cases e : d.w with
            | chg b k x => cases b with
              | false => show V.str "put" ≠ V.str "back"; decide
              | true => show V.str "add" ≠ V.str "back"; decide
            | back k n => exact absurd ⟨k, n, e⟩ isb
            | shut rows => show V.str "seal" ≠ V.str "back"; decide
            | bye => show V.str "bye" ≠ V.str "back"; decide
          have nt' : tgt d.w = none := by
            cases e : d.w with
            | back k n => exact absurd ⟨k, n, e⟩ isb
            | _ => rfl
          refine ⟨rfl, false, congrArg V.bl (decide_eq_false ne), iteF (iteF ⟨_, _, kvs, rfl, S6, ht6, ?_, by omega⟩)⟩
          rw [same' fun p z => by rw [nt'] at z; cases z]; exact nm
      · rintro σ H5 ⟨y2, y5, kvs, rfl, S5, ht, nm, lk⟩
        rw [pr_len hp, Nat.sub_self, List.drop_zero] at nm
        have ft := S3.same.free nt
        refine ⟨_, rfl, q (upd F3 t (.dT kvs)) H5 t kvs ⟨S5.ext.frz nt0 ft ht, S5.tab, by rw [upd_ne (tne S5 ht).symm]; exact S5.fP⟩ upd_same ?_⟩
        unfold takenOf
        rw [hV]
        exact nm
end
end Rw
namespace Rw
open PySem L2
open GxR (TabB TabG Tabbed)
theorem line_of {ds line : List Deed} (h : LineOf ds line) (ok : ∀ d ∈ ds, DeedOk d) (uq : Uniq ds) (few : line.length ≤ 400) : Line line :=
  ⟨h.ord, fun d hd e he => uq d ((h.mem d).mp hd) e ((h.mem e).mp he), fun d hd => ok d ((h.mem d).mp hd), few⟩
theorem LineOf.len {ds line : List Deed} (h : LineOf ds line) : line.length ≤ ds.length := by
  have nd : line.Nodup := h.ord.imp fun {a b} l e => by rw [e] at l; exact sLt_irr l l
  have go : ∀ (l D : List Deed), l.Nodup → (∀ x ∈ l, x ∈ D) → l.length ≤ D.length := by
    intro l
    induction l with
    | nil => intro D _ _; exact Nat.zero_le _
    | cons x l ih =>
      intro D n s
      have hx := s x List.mem_cons_self
      have h1 := ih (D.erase x) (List.nodup_cons.mp n).2 fun y hy => by
        have ne : y ≠ x := fun e => (List.nodup_cons.mp n).1 (e ▸ hy)
        exact (List.mem_erase_of_ne ne).mpr (s y (List.mem_cons_of_mem _ hy))
      rw [List.length_erase_of_mem hx] at h1
      have : 0 < D.length := List.length_pos_of_mem hx
      rw [List.length_cons]; omega
  exact go line ds nd fun d hd => (h.mem d).mp hd
/-- what the deeds are told as: by their stamps, each once -/
structure Given (F : Hp) (v : V) (ds : List Deed) : Prop where
  list : (kL kDeed).is F v ds
  ok : ∀ d ∈ ds, DeedOk d
  uq : Uniq ds
  few : ds.length ≤ 400
def zeros : List Int := [0, 0, 0, 0, 0, 0]
def spWorths (Pc : Addr) : Sp := fun vs H Q _ => ∃ (F : Hp) (v : V) (ds : List Deed), vs = [v] ∧ Same F H ∧ Given F v ds ∧ TabG H Pc ∧ F Pc = none ∧ RetP Pc F H kInt (fun out => ∃ line, LineOf ds line ∧ out = worthsOf zeros line []) Q
def spAlive (Pc : Addr) : Sp := fun vs H Q _ => ∃ (F : Hp) (v : V) (ds : List Deed), vs = [v] ∧ Same F H ∧ Given F v ds ∧ TabG H Pc ∧ F Pc = none ∧ RetP Pc F H kPt (fun out => ∃ line, LineOf ds line ∧ out = (standOf line []).map name) Q
def spVoid (Pc : Addr) : Sp := fun vs H Q _ => ∃ (F : Hp) (v : V) (ds : List Deed), vs = [v] ∧ Same F H ∧ Given F v ds ∧ TabG H Pc ∧ F Pc = none ∧ RetP Pc F H kPt (fun out => ∃ line, LineOf ds line ∧ out = voidsOf line []) Q
def spNoWorths : Sp := fun vs H Q _ => vs = [] ∧ ∀ (H' : Hp) (a : Addr), (∀ F, Same F H → Ext M0 F H F H') → H a = none → H' a = some (.lst (zeros.map V.int)) → Q (.ref a) H'
theorem ints_pr {F : Hp} : ∀ {vs : List V} {xs : List Int}, Paired (kInt.is F) vs xs → vs = xs.map V.int
  | _, _, .nil => rfl
  | _, _, .cons r t => by rw [List.map_cons, ← ints_pr t]; exact congrArg (· :: _) r
theorem pr_ints {F : Hp} : ∀ xs : List Int, Paired (kInt.is F) (xs.map V.int) xs
  | [] => .nil
  | x :: xs => .cons rfl (pr_ints xs)
section
variable {P : Program} {w : World} {K : PySem.W.Frag} {mg : Str → Option Value} {base : Heap}
set_option maxHeartbeats 1000000 in
theorem ok_standing {f Pc : Addr} {fd : FuncData} (F0 : Fun K "standing" "standing" s_standing f fd) (CT : Cal P w K mg base 5 "taken_in" ["line", "gone"] (spTakenIn Pc)) (CN : Cal P w K mg base 1 "name_of" ["deed"] spNameOf) (CL : Cal P w K mg base 2 "is_lasting" ["deed"] spIsLasting) :
    FnOk P w K mg base CX0 6 f fd ["line", "gone"] (spStanding Pc) := by
  obtain ⟨f1, fd1, G1, g1, kp1, b1⟩ := CT
  obtain ⟨f2, fd2, G2, g2, kp2, b2⟩ := CN
  obtain ⟨f3, fd3, G3, g3, kp3, b3⟩ := CL
  refine F0.ok sc_standing (fun vs H Q E h => ?_) (fun cdv A outer s H vs Q E hr h => ?_)
  · obtain ⟨F, v, g, line, gone, rfl, _⟩ := h
    rfl
  · obtain ⟨F, v, g, line, gone, rfl, fh, ⟨a, xs, rfl, ha, hp⟩, hg, L, vg, lg, tab, fP, q⟩ := h
    have hr1 : Room 1 _ := hr.mono (by decide)
    have hr2 : Room 2 _ := hr.mono (by decide)
    have hu := hu_of hr
    refine ⟨_, pss_cons (ps_set (i := 2) sc_standing.nd rfl (.inr rfl) (pe_call G1 hr (by rfl) g1 kp1 b1 .nil pass0 (pa_cons (pv 0) (pa_cons (pv 1) pa_nil))))
      (pss_one (ps_ret (pe_lc (own := [("deed", 3)]) (g := gName 3) (by rfl) sc_standing.nd (pi_list (pv 0)) (blkOk_by (own := [("deed", 3)]) (N := ["line", "gone", "taken", "deed"]) (sc := defScope s_standing) (by decide +kernel))
        (fun _ _ _ _ _ => pg_name (i := 3) sc_standing.nd rfl (.inl rfl)) (fun _ _ _ _ _ => pts_one (PW.pt (pw_or (pt_val (pe_call G3 hr2 (by rfl) g3 kp3 b3 .nil pass0 (pa_cons (pv 3) pa_nil))) (pw_or1 (pt_cmp (pc_dnotin hu (pe_call G2 hr1 (by rfl) g2 kp2 b2 .nil pass0 (pa_cons (pv 3) pa_nil)) (pv 2)) (by rfl))))))
        (fun _ _ _ _ _ => pv 3)))), ?_⟩
    have l4 := L.few
    refine ⟨_, rfl, _, rfl, F, .ref a, g, line, gone, rfl, fh, ⟨a, xs, rfl, ha, hp⟩, hg, L, vg, lg, tab, fP, fun F1 H1 d kvs S1 hd nm => ?_⟩
    have m1 := S1.ext.ff
    refine ⟨_, rfl, a, rfl, ⟨_, SqL.of (S1.same _ _ (m1 _ _ ha))⟩, fun D nD => ?_⟩
    refine it_by (walk_list (K := K) (a := a) (xs := xs)) (fun i H' => ∃ (F' : Hp) (acc : List V), Ext M0 F1 H1 F' H' ∧ H' D = some (.lst acc) ∧ F' D = none ∧ Paired (kDeed.is F') acc ((line.take i).filter (standB line gone)))
      ⟨F1, [], (Ext.refl S1.same).tmp nD, upd_same, S1.same.free nD, .nil⟩ (fun i H' _ ⟨_, _, X, _⟩ => SqL.of (X.fh _ _ (X.ff _ _ (m1 _ _ ha)))) ?_ ?_
    · rintro i x _ H2 hi ⟨F2, acc, X2, hD, fD, hacc⟩ ⟨rfl, hx⟩
      obtain ⟨e, he, hev⟩ := pr_get hp hx
      have ke := kDeed.mono (m1.trans X2.ff) hev
      have lacc : acc.length ≤ 400 := by
        rw [pr_len hacc]
        have h1 := List.length_filter_le (standB line gone) (line.take i)
        have h2 := List.length_take_le' i line
        omega
      have eT : line.take (i + 1) = line.take i ++ [e] := by rw [List.take_add_one, he]; rfl
      have yes : standB line gone e = true → (line.take (i + 1)).filter (standB line gone) = (line.take i).filter (standB line gone) ++ [e] := fun z => by rw [eT, List.filter_append, List.filter_cons_of_pos z]; rfl
      have no : standB line gone e = false → (line.take (i + 1)).filter (standB line gone) = (line.take i).filter (standB line gone) := fun z => by rw [eT, List.filter_append, List.filter_cons_of_neg (by simp [z])]; simp
      refine ⟨rfl, _, rfl, F2, x, e, rfl, X2.fh, ke, fun H3 X3 => ⟨_, rfl, ?_⟩⟩
      have X4 := X2.trans X3
      have hD3 := X3.hh _ _ hD (fun z => z)
      cases hl : lasting e.w with
      | true =>
        have y : standB line gone e = true := by unfold standB; rw [hl]; rfl
        refine iteT ⟨_, rfl, acc, hD3, by rw [sizeLine_eq]; omega, F2, acc ++ [x], X4.put (.inl nD) fD, upd_same, fD, ?_⟩
        rw [yes y]
        exact pr_snoc hacc ke
      | false =>
        refine iteF ⟨_, rfl, F2, x, e, rfl, X4.fh, ke, fun np nnp => ?_⟩
        have X5 := X4.tmp (o := .tup [.int e.h, .int e.n]) nnp
        have hD5 : upd H3 np (.tup [.int e.h, .int e.n]) D = some (.lst acc) := by rw [upd_ne (ne_of_none hD3 nnp)]; exact hD3
        refine ⟨_, rfl, d, _, rfl, DGet.t (k := kk (name e)) (X5.fh _ _ (X5.ff _ _ hd)) upd_same, ?_⟩
        rw [show (valV kvs (kk (name e))).isSome = decide (name e ∈ takenOf line gone) from nm (name e)]
        by_cases c : name e ∈ takenOf line gone
        · have y : standB line gone e = false := by unfold standB; rw [hl, decide_eq_true c]; rfl
          rw [decide_eq_true c]
          exact ⟨_, rfl, F2, acc, X5, hD5, fD, by rw [no y]; exact hacc⟩
        · have y : standB line gone e = true := by unfold standB; rw [hl, decide_eq_false c]; rfl
          rw [decide_eq_false c]
          refine ⟨_, rfl, _, rfl, acc, hD5, by rw [sizeLine_eq]; omega, F2, acc ++ [x], X5.put (.inl nD) fD, upd_same, fD, ?_⟩
          rw [yes y]
          exact pr_snoc hacc ke
    · rintro H2 ⟨F2, acc, X2, hD, fD, hacc⟩
      rw [pr_len hp, List.take_length] at hacc
      exact q F2 H2 D acc _ (S1.step X2) (S1.ext.free nD) fD hD hacc rfl
set_option maxHeartbeats 1000000 in
theorem ok_worths_behind {f Pc : Addr} {fd : FuncData} (F0 : Fun K "worths_behind" "worths_behind" s_worths_behind f fd) (T : TxD mg) (CS : Cal P w K mg base 6 "standing" ["line", "gone"] (spStanding Pc)) : FnOk P w K mg base CX0 7 f fd ["base", "line", "gone"] (spBehind Pc) := by
  obtain ⟨f1, fd1, G1, g1, kp1, b1⟩ := CS
  refine F0.ok sc_worths_behind (fun vs H Q E h => ?_) (fun cdv A outer s H vs Q E hr h => ?_)
  · obtain ⟨F, u, v, g, b, line, gone, rfl, _⟩ := h
    rfl
  · obtain ⟨F, u, v, g, b, line, gone, rfl, fh, ⟨ua, us, rfl, hua, pu⟩, lb, ⟨a, xs, rfl, ha, hp⟩, hg, L, vg, lg, tab, fP, q⟩ := h
    refine ⟨_, pss_cons (ps_set (i := 3) sc_worths_behind.nd rfl (.inl rfl) (pe_callTy call_list_of (by rfl) T.list (by decide +kernel) (pa_cons (pv 0) pa_nil)))
      (pss_cons (ps_for PassesOwn.never rfl (pi_list (pe_call G1 hr (by rfl) g1 kp1 b1 .nil pass0 (pa_cons (pv 1) (pa_cons (pv 2) pa_nil)))) (pg_name (i := 4) sc_worths_behind.nd rfl (.inl rfl))
        (pss_cons (ps_set (i := 5) sc_worths_behind.nd rfl (.inl rfl) (pe_ix ix_tup (pv 4) pe_int (fun _ _ => rfl)))
        (pss_one (ps_if (pt_cmpR op_eq (pe_ix ix_tup (pv 5) pe_int (fun _ _ => rfl)) pe_str (nomark _))
          (pss_one (ps_asg (pe_ix ix_tup (pv 5) pe_int (fun _ _ => rfl)) (pg_sub (pv 3) (pe_ix ix_tup (pv 5) pe_int (fun _ _ => rfl)) set_list)))
          (pss_one (ps_if (pt_cmpR op_eq (pe_ix ix_tup (pv 5) pe_int (fun _ _ => rfl)) pe_str (nomark _))
            (pss_one (ps_augS (pv 3) (pe_ix ix_tup (pv 5) pe_int (fun _ _ => rfl)) pget_list (pe_ix ix_tup (pv 5) pe_int (fun _ _ => rfl)) ip_add set_list)) pss_nil))))))
      (pss_one (ps_ret (pv 3)))), ?_⟩
    have S0 := GS.start fh tab fP
    have eus := ints_pr pu
    subst eus
    refine ⟨_, rfl, ua, _, rfl, .inl (SqL.of (fh _ _ hua)), fun o no => ?_⟩
    have fo := fh.free no
    have S1 := S0.tmp (o := .lst (b.map V.int)) no
    have ho1 : upd H o (.lst (b.map V.int)) o = some (.lst (b.map V.int)) := upd_same
    revert S1 ho1
    generalize upd H o (.lst (b.map V.int)) = H1
    intro S1 ho1
    refine ⟨_, rfl, _, rfl, F, .ref a, g, line, gone, rfl, S1.same, ⟨a, xs, rfl, ha, hp⟩, hg, L, vg, lg, S1.tab, S1.fP, fun F2 H2 sa ss st G2' ns fs hs ps est => ?_⟩
    subst est
    have S2 := S1.trans G2'
    have ho2 : H2 o = some (.lst (b.map V.int)) := G2'.ext.hh _ _ ho1 (S1.ne ho1)
    have fo2 : F2 o = none := by rw [G2'.ext.new o (by rw [ho1]; simp)]; exact fo
    have os : o ≠ sa := ne_of_none ho1 ns
    have S3 := S2.frz (S1.ext.free ns) fs hs
    have hs3 : upd F2 sa (.lst ss) sa = some (.lst ss) := upd_same
    have ps3 := pr_mono (fun _ _ z => kDeed.mono (same_upd (o := .lst ss) fs) z) ps
    have fo3 : upd F2 sa (.lst ss) o = none := by rw [upd_ne os]; exact fo2
    revert S3 hs3 ps3 fo3
    generalize upd F2 sa (.lst ss) = F3
    intro S3 hs3 ps3 fo3
    clear S2 S1 ho1 fo2 hs ps fs ns G2'
    have okS : ∀ d ∈ standOf line gone, DeedOk d := fun d hd => L.ok d (List.mem_filter.mp hd).1
    generalize hst : standOf line gone = st at ps3 okS
    refine ⟨sa, rfl, ⟨_, SqL.of (S3.same _ _ hs3)⟩, for_list (K := K) (a := sa) (xs := ss) (fun i σ H' => ∃ (y4 y5 : Option V) (out : List Int), σ = [some (.ref ua), some (.ref a), some g, some (.ref o), y4, y5] ∧ GS Pc F H F3 H' ∧ H' o = some (.lst (out.map V.int)) ∧ out = (st.take i).foldl worthStep b ∧ out.length = 6)
      ⟨_, _, b, rfl, S3, ho2, rfl, lb⟩ (fun i σ H' _ ⟨_, _, _, _, S, _⟩ => SqL.of (S.same _ _ hs3)) ?_ ?_⟩
    · rintro i x σ H4 hi ⟨y4, y5, out, rfl, S4, ho, eo, lo⟩
      obtain ⟨d, hd, kd⟩ := pr_get ps3 hi
      have ok := (okS d (List.mem_of_getElem? hd)).w
      have eF : (st.take (i + 1)).foldl worthStep b = worthStep out d := by
        rw [List.take_add_one, hd, List.foldl_append, ← eo]; rfl
      obtain ⟨da, u', rfl, hda, hw'⟩ := kd
      refine ⟨_, rfl, da, _, 3, _, rfl, rfl, SqT.of (S4.same _ _ hda), rfl, ?_⟩
      have put : ∀ (k : Nat) (z : Int), k < 6 → GS Pc F H F3 (upd H4 o (.lst ((out.map V.int).set k (.int z)))) ∧ upd H4 o (.lst ((out.map V.int).set k (.int z))) o = some (.lst ((out.set k z).map V.int)) := fun k z _ =>
        ⟨S4.put no fo3 ho, by rw [upd_same, List.map_set]⟩
      cases hw : d.w with
      | chg bb k x =>
        rw [hw] at hw' ok
        obtain ⟨wa, rfl, hwa⟩ := hw'
        obtain ⟨k0, k5, _, _⟩ := ok
        have hwH := S4.same _ _ hwa
        have ix : ixN (out.map V.int).length k = some k.toNat := by
          unfold ixN
          rw [List.length_map, if_pos k0, if_pos (by omega)]
        cases bb with
        | false =>
          refine ⟨_, rfl, wa, _, 0, _, rfl, rfl, SqT.of hwH, rfl, rfl, true, by decide, iteT ?_⟩
          refine ⟨_, rfl, wa, _, 2, _, rfl, rfl, SqT.of hwH, rfl, _, rfl, _, rfl, wa, _, 1, _, rfl, rfl, SqT.of hwH, rfl, o, _, k, k.toNat, rfl, rfl, ho, ix, ?_⟩
          obtain ⟨S5, ho5⟩ := put k.toNat x (by omega)
          refine ⟨_, _, out.set k.toNat x, rfl, S5, ho5, ?_, by rw [List.length_set]; exact lo⟩
          rw [eF]; unfold worthStep; rw [hw]
        | true =>
          refine ⟨_, rfl, wa, _, 0, _, rfl, rfl, SqT.of hwH, rfl, rfl, false, by decide, iteF ?_⟩
          refine ⟨_, rfl, wa, _, 0, _, rfl, rfl, SqT.of hwH, rfl, rfl, true, by decide, iteT ?_⟩
          obtain ⟨z, hz⟩ : ∃ z, out[k.toNat]? = some z := ⟨_, List.getElem?_eq_getElem (by omega)⟩
          have at' : atI (out.map V.int) k = some (.int z) := by
            unfold atI
            rw [ix]
            show (out.map V.int)[k.toNat]? = _
            rw [List.getElem?_map, hz]; rfl
          refine ⟨_, rfl, _, rfl, wa, _, 1, _, rfl, rfl, SqT.of hwH, rfl, o, _, k, _, rfl, rfl, SqL.of ho, k0, at', _, rfl, wa, _, 2, _, rfl, rfl, SqT.of hwH, rfl, _, _, rfl, rfl, o, _, k, k.toNat, rfl, rfl, ho, ix, ?_⟩
          obtain ⟨S5, ho5⟩ := put k.toNat (z + x) (by omega)
          refine ⟨_, _, out.set k.toNat (z + x), rfl, S5, ho5, ?_, by rw [List.length_set]; exact lo⟩
          rw [eF]; unfold worthStep; rw [hw]
          show _ = out.set k.toNat (out.getD k.toNat 0 + x)
          rw [List.getD_eq_getElem?_getD, hz]; rfl
      | back k n =>
        rw [hw] at hw'
        obtain ⟨wa, rfl, hwa⟩ := hw'
        have hwH := S4.same _ _ hwa
        refine ⟨_, rfl, wa, _, 0, _, rfl, rfl, SqT.of hwH, rfl, rfl, false, by decide, iteF ?_⟩
        refine ⟨_, rfl, wa, _, 0, _, rfl, rfl, SqT.of hwH, rfl, rfl, false, by decide, iteF ?_⟩
        exact ⟨_, _, out, rfl, S4, ho, by rw [eF]; unfold worthStep; rw [hw], lo⟩
      | shut rows =>
        rw [hw] at hw'
        obtain ⟨wa, _, rfl, hwa, _⟩ := hw'
        have hwH := S4.same _ _ hwa
        refine ⟨_, rfl, wa, _, 0, _, rfl, rfl, SqT.of hwH, rfl, rfl, false, by decide, iteF ?_⟩
        refine ⟨_, rfl, wa, _, 0, _, rfl, rfl, SqT.of hwH, rfl, rfl, false, by decide, iteF ?_⟩
        exact ⟨_, _, out, rfl, S4, ho, by rw [eF]; unfold worthStep; rw [hw], lo⟩
      | bye =>
        rw [hw] at hw'
        obtain ⟨wa, rfl, hwa⟩ := hw'
        have hwH := S4.same _ _ hwa
        refine ⟨_, rfl, wa, _, 0, _, rfl, rfl, SqT.of hwH, rfl, rfl, false, by decide, iteF ?_⟩
        refine ⟨_, rfl, wa, _, 0, _, rfl, rfl, SqT.of hwH, rfl, rfl, false, by decide, iteF ?_⟩
        exact ⟨_, _, out, rfl, S4, ho, by rw [eF]; unfold worthStep; rw [hw], lo⟩
    · rintro σ H4 ⟨y4, y5, out, rfl, S4, ho, eo, lo⟩
      rw [pr_len ps3, List.take_length] at eo
      refine ⟨_, rfl, q F3 H4 o (out.map V.int) out S4 no fo3 ho (pr_ints out) ?_⟩
      rw [eo, ← hst]; rfl
theorem ok_no_worths {f : Addr} {fd : FuncData} (F0 : Fun K "no_worths" "no_worths" s_no_worths f fd) (T : TxD mg) : FnOk P w K mg base CX0 1 f fd [] spNoWorths := by
  obtain ⟨tk, hk⟩ := T.key
  refine F0.ok sc_no_worths (fun vs H Q E h => ?_) (fun cdv A outer s H vs Q E hr h => ?_)
  · obtain ⟨rfl, _⟩ := h
    rfl
  · obtain ⟨rfl, q⟩ := h
    refine ⟨_, pss_one (ps_ret (pe_op op_rep (pe_lst (pa_cons pe_int pa_nil)) (pe_op op_add (pe_glob (v := .int 5) (by rfl) hk ⟨_, rfl⟩) pe_int))), ?_⟩
    refine ⟨by show 1 ≤ sizeLine; decide, fun l nl => ⟨5, 1, rfl, rfl, l, _, _, rfl, rfl, upd_same, by decide, by decide, by decide, fun p np => ?_⟩⟩
    have nl' : H p = none := ((Ext.refl (M := M0) (Same.refl H)).tmp (o := .lst [.int 0]) nl).free np
    exact q _ p (fun F s => ((Ext.refl s).tmp nl).tmp np) nl' (by rw [upd_same]; rfl)
end
end Rw
namespace Rw
open PySem L2
open GxR (TabB TabG Tabbed)
/-! ### the rows of deeds, the last number of a house -/
def lastOf (rs : List Row) (h : Int) : Int := topOf 0 ((rs.filter fun r => decide (r.1 = h)).map (·.2.2))
def spLastIn : Sp := fun vs H Q _ => ∃ (F : Hp) (v : V) (rs : List Row) (h : Int), vs = [v, .int h] ∧ Same F H ∧ (kL kRow).is F v rs ∧ rs.length ≤ 100000 ∧ ∀ H', Ext M0 F H F H' → Q (.int (lastOf rs h)) H'
def rowD (d : Deed) : Row := (d.h, d.n, d.n)
def spRowsOf : Sp := fun vs H Q _ => ∃ (F : Hp) (v : V) (ds : List Deed), vs = [v] ∧ Same F H ∧ (kL kDeed).is F v ds ∧ ds.length ≤ 100000 ∧ RetL M0 F H kRow (Fewest (ds.map rowD)) Q
structure TxH (mg : Str → Option Value) : Prop where
  max : mg "max" = none
  list : mg "list" = none
def spCheckMany : Sp := fun vs H Q _ => ∃ n : Int, vs = [.int n] ∧ 2 ≤ n ∧ n ≤ 6 ∧ Q .non H
def spCheckOneOf : Sp := fun vs H Q _ => ∃ m n : Int, vs = [.int m, .int n] ∧ 0 ≤ m ∧ m < n ∧ Q .non H
theorem rowD_mem {ds : List Deed} {p : Pt} : mem (ds.map rowD) p ↔ ∃ d ∈ ds, name d = p := by
  constructor
  · rintro ⟨r, hr, i1, i2, i3⟩
    obtain ⟨d, hd, rfl⟩ := List.mem_map.mp hr
    simp only [rowD] at i1 i2 i3
    exact ⟨d, hd, Prod.ext i1 (by show d.n = p.2; omega)⟩
  · rintro ⟨d, hd, rfl⟩
    exact ⟨rowD d, List.mem_map.mpr ⟨d, hd, rfl⟩, rfl, Int.le_refl _, Int.le_refl _⟩
section
variable {P : Program} {w : World} {K : PySem.W.Frag} {mg : Str → Option Value} {base : Heap}
theorem ok_check_many {f : Addr} {fd : FuncData} (F0 : Fun K "check_many" "check_many" s_check_many f fd) (least : ∃ t, mg "LEAST_HOUSES" = some (.int 2 t)) (most : ∃ t, mg "MOST_HOUSES" = some (.int 6 t)) (CN : Cal P w K mg base 1 "is_number" ["value", "low", "high"] spIsNumber) :
    FnOk P w K mg base CX0 2 f fd ["many"] spCheckMany := by
  obtain ⟨f1, fd1, G1, g1, kp1, b1⟩ := CN
  obtain ⟨tl, hl⟩ := least
  obtain ⟨tm, hm⟩ := most
  refine F0.ok sc_check_many (fun vs H Q E h => ?_) (fun cdv A outer s H vs Q E hr h => ?_)
  · obtain ⟨n, rfl, _⟩ := h
    rfl
  · obtain ⟨n, rfl, n2, n6, q⟩ := h
    refine ⟨_, pss_one (ps_if (pt_not (pt_val (pe_call G1 hr (by rfl) g1 kp1 b1 .nil pass0 (pa_cons (pv 0) (pa_cons (pe_glob (v := .int 2) (by rfl) hl ⟨_, rfl⟩) (pa_cons (pe_glob (v := .int 6) (by rfl) hm ⟨_, rfl⟩) pa_nil)))))) (pss_one ps_never) pss_nil), ?_⟩
    refine ⟨_, rfl, n, 2, 6, rfl, ?_⟩
    rw [decide_eq_true ⟨n2, n6⟩]
    exact ⟨true, rfl, iteF q⟩
theorem ok_check_one_of {f : Addr} {fd : FuncData} (F0 : Fun K "check_one_of" "check_one_of" s_check_one_of f fd) (CN : Cal P w K mg base 1 "is_number" ["value", "low", "high"] spIsNumber) : FnOk P w K mg base CX0 2 f fd ["which", "many"] spCheckOneOf := by
  obtain ⟨f1, fd1, G1, g1, kp1, b1⟩ := CN
  refine F0.ok sc_check_one_of (fun vs H Q E h => ?_) (fun cdv A outer s H vs Q E hr h => ?_)
  · obtain ⟨m, n, rfl, _⟩ := h
    rfl
  · obtain ⟨m, n, rfl, m0, mn, q⟩ := h
    refine ⟨_, pss_one (ps_if (pt_not (pt_val (pe_call G1 hr (by rfl) g1 kp1 b1 .nil pass0 (pa_cons (pv 0) (pa_cons pe_int (pa_cons (pe_op op_sub (pv 1) pe_int) pa_nil)))))) (pss_one ps_never) pss_nil), ?_⟩
    refine ⟨_, rfl, _, rfl, _, _, rfl, rfl, m, 0, n - 1, rfl, ?_⟩
    rw [decide_eq_true (⟨m0, by omega⟩ : 0 ≤ m ∧ m ≤ n - 1)]
    exact ⟨true, rfl, iteF q⟩
theorem ok_last_in {f : Addr} {fd : FuncData} (F0 : Fun K "last_in" "last_in" s_last_in f fd) (T : TxH mg) : FnOk P w K mg base CX0 4 f fd ["rows", "house"] spLastIn := by
  refine F0.ok sc_last_in (fun vs H Q E h => ?_) (fun cdv A outer s H vs Q E hr h => ?_)
  · obtain ⟨F, v, rs, k, rfl, _⟩ := h
    rfl
  · obtain ⟨F, v, rs, k, rfl, fh, ⟨a, xs, rfl, ha, hp⟩, l5, q⟩ := h
    refine ⟨_, pss_one (ps_ret (pe_callBK (cr_maxD hr) (by rfl) T.max (by decide +kernel) (pa_cons (pe_lc (own := [("maker", 2), ("_", 3), ("last", 4)]) (g := gTup K 3 (gCons (gName 2) (gCons (gName 3) (gCons (gName 4) gNil)))) (tt := tTest (tOp rEq (tVar 2) (tVar 1))) (te := tVar 4) (by rfl) sc_last_in.nd (pi_list (pv 0))
        (blkOk_by (own := [("maker", 2), ("_", 3), ("last", 4)]) (N := ["rows", "house", "maker", "_", "last"]) (sc := defScope s_last_in) (by decide +kernel))
        (fun _ _ _ _ _ => pg_tup (by rfl) (pgs_cons (pg_name (i := 2) sc_last_in.nd rfl (Or.inl rfl)) (pgs_cons (pg_name (i := 3) sc_last_in.nd rfl (Or.inl rfl)) (pgs_cons (pg_name (i := 4) sc_last_in.nd rfl (Or.inl rfl)) pgs_nil)))) (fun _ _ _ _ _ => pts_one (pt_cmpR op_eq (pv 2) (pv 1) (by rfl)))
        (fun _ _ _ _ _ => pv 4)) pa_nil) (pk_cons pe_int pk_nil))), ?_⟩
    refine ⟨_, rfl, a, rfl, ⟨_, SqL.of (fh _ _ ha)⟩, fun D nD => ?_⟩
    refine it_by (walk_list (K := K) (a := a) (xs := xs)) (fun i H' => Ext M0 F H F H' ∧ H' D = some (.lst ((((rs.take i).filter fun r => decide (r.1 = k)).map (·.2.2)).map V.int)))
      ⟨(Ext.refl fh).tmp nD, upd_same⟩ (fun i H' _ ⟨X, _⟩ => SqL.of (X.fh _ _ ha)) ?_ ?_
    · rintro j x _ H1 hj ⟨X1, hD⟩ ⟨rfl, hx⟩
      obtain ⟨r, hr, t, rfl, ht⟩ := pr_get hp hx
      have eT : (rs.take (j + 1)).filter (fun r => decide (r.1 = k)) = (rs.take j).filter (fun r => decide (r.1 = k)) ++ [r].filter fun r => decide (r.1 = k) := by
        rw [List.take_add_one, hr, ← List.filter_append]; rfl
      have la : ((((rs.take j).filter fun r => decide (r.1 = k)).map (·.2.2)).map V.int).length ≤ 100000 := by
        rw [List.length_map, List.length_map]
        have := List.length_filter_le (fun r : Row => decide (r.1 = k)) (rs.take j)
        have := List.length_take_le' j rs
        omega
      refine ⟨t, _, rfl, SqT.of (X1.fh _ _ ht), rfl, _, _, rfl, _, _, rfl, _, _, rfl, rfl, ?_⟩
      refine ⟨rfl, _, rfl, _, rfl, rfl, _, rfl, ?_⟩
      by_cases c : r.1 = k
      · rw [decide_eq_true (show V.int r.1 = V.int k by rw [c])]
        refine ⟨_, rfl, _, hD, by rw [sizeLine_eq]; omega, X1.put (.inl nD) (fh.free nD), ?_⟩
        rw [upd_same, eT, List.filter_cons_of_pos (by simp [c]), List.filter_nil, List.map_append, List.map_append]
        rfl
      · rw [decide_eq_false (show ¬ V.int r.1 = V.int k from fun z => c (V.int.inj z))]
        refine ⟨X1, ?_⟩
        rw [eT, List.filter_cons_of_neg (by simp [c]), List.filter_nil, List.append_nil]
        exact hD
    · rintro H1 ⟨X1, hD⟩
      rw [pr_len hp, List.take_length] at hD
      exact ⟨D, _, 0, rfl, rfl, SqL.of hD, q H1 X1⟩
theorem ok_rows_of {f : Addr} {fd : FuncData} (F0 : Fun K "rows_of" "rows_of" s_rows_of f fd) (CF : Cal P w K mg base 3 "fewest" ["rows"] spFewest) : FnOk P w K mg base CX0 4 f fd ["deeds"] spRowsOf := by
  obtain ⟨f1, fd1, G1, g1, kp1, b1⟩ := CF
  refine F0.ok sc_rows_of (fun vs H Q E h => ?_) (fun cdv A outer s H vs Q E hr h => ?_)
  · obtain ⟨F, v, ds, rfl, _⟩ := h
    rfl
  · obtain ⟨F, v, ds, rfl, fh, ⟨a, xs, rfl, ha, hp⟩, l5, q⟩ := h
    refine ⟨_, pss_one (ps_ret (pe_call G1 hr (by rfl) g1 kp1 b1 .nil pass0 (pa_cons (pe_lc (own := [("deed", 1)]) (g := gName 1) (tt := tYes) (te := tTup (tCons (tOp (rIxT K) (tVar 1) (tC (.int 0))) (tCons (tOp (rIxT K) (tVar 1) (tC (.int 1))) (tCons (tOp (rIxT K) (tVar 1) (tC (.int 1))) tNil)))) (by rfl) sc_rows_of.nd (pi_list (pv 0))
        (blkOk_by (own := [("deed", 1)]) (N := ["deeds", "deed"]) (sc := defScope s_rows_of) (by decide +kernel)) (fun _ _ _ _ _ => pg_name (i := 1) sc_rows_of.nd rfl (Or.inl rfl)) (fun _ _ _ _ _ => pts_nil)
        (fun _ _ _ _ _ => pe_tup (pa_cons (pe_ix ix_tup (pv 1) pe_int (fun _ _ => rfl)) (pa_cons (pe_ix ix_tup (pv 1) pe_int (fun _ _ => rfl)) (pa_cons (pe_ix ix_tup (pv 1) pe_int (fun _ _ => rfl)) pa_nil))))) pa_nil))), ?_⟩
    refine ⟨_, rfl, a, rfl, ⟨_, SqL.of (fh _ _ ha)⟩, fun D nD => ?_⟩
    refine it_by (walk_list (K := K) (a := a) (xs := xs)) (fun i H' => ∃ (F' : Hp) (acc : List V), Ext M0 F H F' H' ∧ H' D = some (.lst acc) ∧ F' D = none ∧ Paired (kRow.is F') acc ((ds.take i).map rowD))
      ⟨F, [], (Ext.refl fh).tmp nD, upd_same, fh.free nD, .nil⟩ (fun i H' _ ⟨_, _, X, _⟩ => SqL.of (X.fh _ _ (X.ff _ _ ha))) ?_ ?_
    · rintro j x _ H1 hj ⟨F1, acc, X1, hD, fD, hac⟩ ⟨rfl, hx⟩
      obtain ⟨d, hd, ad, ud, rfl, had, _⟩ := pr_get hp hx
      have h1 := X1.fh _ _ (X1.ff _ _ had)
      have la : acc.length ≤ 100000 := by
        rw [pr_len hac, List.length_map]
        have := List.length_take_le' j ds
        omega
      refine ⟨rfl, _, rfl, ad, _, 0, _, rfl, rfl, SqT.of h1, rfl, _, rfl, ad, _, 1, _, rfl, rfl, SqT.of h1, rfl, _, rfl, ad, _, 1, _, rfl, rfl, SqT.of h1, rfl, by show 3 ≤ sizeLine; decide, fun t nt => ?_⟩
      have Dt : D ≠ t := ne_of_none hD nt
      have fD2 : upd F1 t (.tup [.int d.h, .int d.n, .int d.n]) D = none := by rw [upd_ne Dt]; exact fD
      have sm : Same F1 (upd F1 t (.tup [.int d.h, .int d.n, .int d.n])) := same_upd (X1.ffree nt)
      refine ⟨acc, by rw [upd_ne Dt]; exact hD, by rw [sizeLine_eq]; omega, upd F1 t (.tup [.int d.h, .int d.n, .int d.n]), acc ++ [.ref t], (X1.lay nt).put (.inl nD) fD2, upd_same, fD2, ?_⟩
      rw [List.take_add_one, hd, List.map_append]
      exact pr_snoc (pr_mono (fun _ _ z => kRow.mono sm z) hac) ⟨t, rfl, upd_same⟩
    · rintro H1 ⟨F1, acc, X1, hD, fD, hac⟩
      rw [pr_len hp, List.take_length] at hac
      have X2 := X1.frz nD fD hD
      refine ⟨_, .ref D, ds.map rowD, rfl, X2.fh, kL_new fD hac, fun r hr => ?_, by rw [List.length_map]; exact l5, RetL.step X2 q fun _ h => h⟩
      obtain ⟨d, _, rfl⟩ := List.mem_map.mp hr
      exact Int.le_refl _
end
end Rw
namespace Rw
open PySem L2
open GxR (TabB TabG Tabbed)
theorem same_seqT {K : PySem.W.Frag} {H H' : Hp} {a : Addr} {xs : List V} (e : Same H H') (h : SqT K H a xs) : SqT K H' a xs := by
  rcases h with (h | ⟨o, h⟩) | h
  · exact .inl (.inl (e _ _ h))
  · exact .inl (.inr ⟨o, e _ _ h⟩)
  · exact .inr h
theorem uniq_nd {ds : List Deed} (h : (ds.map name).Nodup) : Uniq ds := by
  intro d hd e he z
  obtain ⟨i, hi⟩ := List.mem_iff_getElem?.mp hd
  obtain ⟨j, hj⟩ := List.mem_iff_getElem?.mp he
  have e1 : (ds.map name)[i]? = some (name d) := by rw [List.getElem?_map, hi]; rfl
  have e2 : (ds.map name)[j]? = some (name e) := by rw [List.getElem?_map, hj]; rfl
  have := (List.getElem?_inj (i := i) (j := j) (List.getElem?_eq_some_iff.mp e1).1 h).mp (by rw [e1, e2, z])
  subst this
  rw [hi] at hj
  exact Option.some.inj hj
/-! ### a house: what it is, where it stands -/
structure HD where
  me : Int
  many : Int
  time : Int
  rows : List Row
  kept : List Deed
  ends : List (Int × Int)
  gone : List Row
  base : List Int
  mark : Int × Int × Int
structure HA where
  p : Addr
  ra : Addr
  ka : Addr
  ea : Addr
  ga : Addr
  ba : Addr
  km : Addr
def hflds (a : HA) (me many time : Int) : List (Str × V) := [("_me", .int me), ("_many", .int many), ("_time", .int time), ("_rows", .ref a.ra), ("_kept", .ref a.ka), ("_ends", .ref a.ea), ("_gone", .ref a.ga), ("_base", .ref a.ba), ("_mark", .ref a.km)]
def keyD (d : Deed) : List Key := kk (name d)
def endsV (es : List (Int × Int)) : List (Key × V) := es.map fun e => (Sum.inl e.1, V.int e.2)
structure HouseAt (K : PySem.W.Frag) (C : Addr) (F H : Hp) (a : HA) (h : HD) : Prop where
  ob : ∃ dx, H a.p = some (.ins C dx (hflds a h.me h.many h.time))
  fp : F a.p = none
  rows : (kL kRow).is F (.ref a.ra) h.rows
  kept : ∃ kvs, H a.ka = some (.dT kvs) ∧ DVal (kDeed.is F) keyD kvs h.kept
  fk : F a.ka = none
  ends : H a.ea = some (.dK (endsV h.ends))
  fe : F a.ea = none
  gone : (kL kRow).is F (.ref a.ga) h.gone
  base : (kL kInt).is F (.ref a.ba) h.base
  mark : SqT K F a.km [.int h.mark.1, .int h.mark.2.1, .int h.mark.2.2]
/-- what a house keeps, as such -/
structure HOk (h : HD) : Prop where
  nd : (h.kept.map name).Nodup
  ok : ∀ d ∈ h.kept, DeedOk d
  few : h.kept.length ≤ 400
  can : Canon h.rows
  lr : h.rows.length ≤ 5000
  le : h.ends.length ≤ 400
  gv : Valid h.gone
  lg : h.gone.length ≤ 5000
  lb : h.base.length = 6
  held : ∀ d ∈ h.kept, mem h.rows (name d)
def HM (a : HA) : Addr → Prop := fun b => b = a.p ∨ b = a.ka ∨ b = a.ea
section
variable {K : PySem.W.Frag} {C : Addr} {F H F' H' : Hp} {a : HA} {h : HD} {M : Addr → Prop}
theorem HouseAt.step (A : HouseAt K C F H a h) (X : Ext M F H F' H') (h1 : ¬ M a.p) (h2 : ¬ M a.ka) (h3 : ¬ M a.ea) : HouseAt K C F' H' a h := by
  obtain ⟨dx, ob⟩ := A.ob
  obtain ⟨kvs, hk, dv⟩ := A.kept
  exact ⟨⟨dx, X.hh _ _ ob h1⟩, by rw [X.new _ (by rw [ob]; simp)]; exact A.fp, (kL kRow).mono X.ff A.rows, ⟨kvs, X.hh _ _ hk h2, dv.mono fun _ _ z => kDeed.mono X.ff z⟩,
    by rw [X.new _ (by rw [hk]; simp)]; exact A.fk, X.hh _ _ A.ends h3, by rw [X.new _ (by rw [A.ends]; simp)]; exact A.fe, (kL kRow).mono X.ff A.gone, (kL kInt).mono X.ff A.base, same_seqT X.ff A.mark⟩
theorem HouseAt.step0 (A : HouseAt K C F H a h) (X : Ext M0 F H F' H') : HouseAt K C F' H' a h := A.step X id id id
theorem HouseAt.pk (A : HouseAt K C F H a h) : a.p ≠ a.ka := fun e => by
  obtain ⟨dx, ob⟩ := A.ob
  obtain ⟨kvs, hk, _⟩ := A.kept
  rw [e, hk] at ob; cases ob
theorem HouseAt.pe (A : HouseAt K C F H a h) : a.p ≠ a.ea := fun e => by
  obtain ⟨dx, ob⟩ := A.ob
  rw [e, A.ends] at ob; cases ob
theorem HouseAt.ke (A : HouseAt K C F H a h) : a.ka ≠ a.ea := fun e => by
  obtain ⟨kvs, hk, _⟩ := A.kept
  rw [e, A.ends] at hk; cases hk
theorem HOk.uniq (o : HOk h) : Uniq h.kept := uniq_nd o.nd
end
/-! what the walk asks of the class -/
structure TxC (K : PySem.W.Frag) (mg : Str → Option Value) (C : Addr) : Prop where
  cl : Cls K C
  nMe : NoAttr K C "_me"
  nMany : NoAttr K C "_many"
  nTime : NoAttr K C "_time"
  nRows : NoAttr K C "_rows"
  nKept : NoAttr K C "_kept"
  nEnds : NoAttr K C "_ends"
  nGone : NoAttr K C "_gone"
  nBase : NoAttr K C "_base"
  nMark : NoAttr K C "_mark"
section
variable (a : HA) (me many time : Int)
theorem lk_me : (hflds a me many time).lookup ("_me" : Str) = some (.int me) := by kernel_rfl
theorem lk_many : (hflds a me many time).lookup ("_many" : Str) = some (.int many) := by kernel_rfl
theorem lk_time : (hflds a me many time).lookup ("_time" : Str) = some (.int time) := by kernel_rfl
theorem lk_rows : (hflds a me many time).lookup ("_rows" : Str) = some (.ref a.ra) := by kernel_rfl
theorem lk_kept : (hflds a me many time).lookup ("_kept" : Str) = some (.ref a.ka) := by kernel_rfl
theorem lk_ends : (hflds a me many time).lookup ("_ends" : Str) = some (.ref a.ea) := by kernel_rfl
theorem lk_gone : (hflds a me many time).lookup ("_gone" : Str) = some (.ref a.ga) := by kernel_rfl
theorem lk_base : (hflds a me many time).lookup ("_base" : Str) = some (.ref a.ba) := by kernel_rfl
theorem lk_mark : (hflds a me many time).lookup ("_mark" : Str) = some (.ref a.km) := by kernel_rfl
theorem lk_meet : (hflds a me many time).lookup ("_meet" : Str) = none := by kernel_rfl
theorem lk_next : (hflds a me many time).lookup ("_do_next" : Str) = none := by kernel_rfl
theorem lk_deeds : (hflds a me many time).lookup ("deeds" : Str) = none := by kernel_rfl
theorem pf_time (t : Int) : putF "_time" (.int t) (hflds a me many time) = hflds a me many t := by kernel_rfl
theorem pf_rows (ra : Addr) : putF "_rows" (.ref ra) (hflds a me many time) = hflds { a with ra := ra } me many time := by kernel_rfl
theorem hf_len : (hflds a me many time).length < 1000 := by show 9 < 1000; decide
theorem hf_init : putF "_mark" (.ref a.km) (putF "_base" (.ref a.ba) (putF "_gone" (.ref a.ga) (putF "_ends" (.ref a.ea) (putF "_kept" (.ref a.ka) (putF "_rows" (.ref a.ra) (putF "_time" (.int time) (putF "_many" (.int many) (putF "_me" (.int me) [])))))))) = hflds a me many time := by kernel_rfl
end
/-! a method that may be called -/
def CalM (P : Program) (w : World) (K : PySem.W.Frag) (mg : Str → Option Value) (base : Heap) (C : Addr) (k : Nat) (x : Str) (ps : List Str) (sp : Sp) : Prop :=
  ∃ (f : Addr) (fd : FuncData), FnOk P w K mg base CX0 k f fd ps sp ∧ Meth K C x f ∧ Binds K fd ps []
/-! promises -/
def spNow (K : PySem.W.Frag) (C : Addr) : Sp := fun vs H Q _ => ∃ (F : Hp) (a : HA) (h : HD), vs = [.ref a.p] ∧ HouseAt K C F H a h ∧ Q (.int h.time) H
def spNumber (K : PySem.W.Frag) (C : Addr) : Sp := fun vs H Q _ => ∃ (F : Hp) (a : HA) (h : HD), vs = [.ref a.p] ∧ HouseAt K C F H a h ∧ Q (.int h.me) H
def spCount (K : PySem.W.Frag) (C : Addr) : Sp := fun vs H Q _ => ∃ (F : Hp) (a : HA) (h : HD), vs = [.ref a.p] ∧ HouseAt K C F H a h ∧ Q (.int h.many) H
def spDone (K : PySem.W.Frag) (C : Addr) : Sp := fun vs H Q _ => ∃ (F : Hp) (a : HA) (h : HD), vs = [.ref a.p] ∧ Same F H ∧ HouseAt K C F H a h ∧ RetL M0 F H kRow (· = h.rows) Q
def spDeeds (K : PySem.W.Frag) (C : Addr) : Sp := fun vs H Q _ => ∃ (F : Hp) (a : HA) (h : HD), vs = [.ref a.p] ∧ Same F H ∧ HouseAt K C F H a h ∧ HOk h ∧ RetL M0 F H kDeed (LineOf h.kept) Q
def spHWorths (K : PySem.W.Frag) (C Pc : Addr) : Sp := fun vs H Q _ => ∃ (F : Hp) (a : HA) (h : HD), vs = [.ref a.p] ∧ Same F H ∧ HouseAt K C F H a h ∧ HOk h ∧ TabG H Pc ∧ F Pc = none ∧ RetP Pc F H kInt (fun out => ∃ line, LineOf h.kept line ∧ out = worthsOf h.base line h.gone) Q
section
variable {P : Program} {w : World} {K : PySem.W.Frag} {mg : Str → Option Value} {base : Heap} {C Pc : Addr}
theorem ok_House_now {f : Addr} {fd : FuncData} (F0 : Fun K "now" "House.now" s_House_now f fd) (T : TxC K mg C) : FnOk P w K mg base CX0 1 f fd ["self"] (spNow K C) := by
  refine F0.ok sc_House_now (fun vs H Q E h => ?_) (fun cdv A outer s H vs Q E hr h => ?_)
  · obtain ⟨F, a, h, rfl, _⟩ := h
    rfl
  · obtain ⟨F, a, h, rfl, A, q⟩ := h
    obtain ⟨dx, ob⟩ := A.ob
    exact ⟨_, pss_one (ps_ret (pe_fld (pv 0) rfl)), _, rfl, a.p, C, dx, _, _, rfl, ob, T.cl, T.nTime, lk_time _ _ _ _, q⟩
theorem ok_House_number {f : Addr} {fd : FuncData} (F0 : Fun K "number" "House.number" s_House_number f fd) (T : TxC K mg C) : FnOk P w K mg base CX0 1 f fd ["self"] (spNumber K C) := by
  refine F0.ok sc_House_number (fun vs H Q E h => ?_) (fun cdv A outer s H vs Q E hr h => ?_)
  · obtain ⟨F, a, h, rfl, _⟩ := h
    rfl
  · obtain ⟨F, a, h, rfl, A, q⟩ := h
    obtain ⟨dx, ob⟩ := A.ob
    exact ⟨_, pss_one (ps_ret (pe_fld (pv 0) rfl)), _, rfl, a.p, C, dx, _, _, rfl, ob, T.cl, T.nMe, lk_me _ _ _ _, q⟩
theorem ok_House_count {f : Addr} {fd : FuncData} (F0 : Fun K "count" "House.count" s_House_count f fd) (T : TxC K mg C) : FnOk P w K mg base CX0 1 f fd ["self"] (spCount K C) := by
  refine F0.ok sc_House_count (fun vs H Q E h => ?_) (fun cdv A outer s H vs Q E hr h => ?_)
  · obtain ⟨F, a, h, rfl, _⟩ := h
    rfl
  · obtain ⟨F, a, h, rfl, A, q⟩ := h
    obtain ⟨dx, ob⟩ := A.ob
    exact ⟨_, pss_one (ps_ret (pe_fld (pv 0) rfl)), _, rfl, a.p, C, dx, _, _, rfl, ob, T.cl, T.nMany, lk_many _ _ _ _, q⟩
theorem ok_House_done {f : Addr} {fd : FuncData} (F0 : Fun K "done" "House.done" s_House_done f fd) (T : TxC K mg C) (TH : TxH mg) : FnOk P w K mg base CX0 1 f fd ["self"] (spDone K C) := by
  refine F0.ok sc_House_done (fun vs H Q E h => ?_) (fun cdv A outer s H vs Q E hr h => ?_)
  · obtain ⟨F, a, h, rfl, _⟩ := h
    rfl
  · obtain ⟨F, a, h, rfl, fh, A, q⟩ := h
    obtain ⟨dx, ob⟩ := A.ob
    obtain ⟨ra, xs, e, ha, hp⟩ := A.rows
    cases e
    refine ⟨_, pss_one (ps_ret (pe_callTy call_list_of (by rfl) TH.list (by decide +kernel) (pa_cons (pe_fld (pv 0) rfl) pa_nil))), ?_⟩
    refine ⟨_, rfl, a.p, C, dx, _, _, rfl, ob, T.cl, T.nRows, lk_rows _ _ _ _, a.ra, xs, rfl, .inl (SqL.of (fh _ _ ha)), fun o no => ?_⟩
    exact q F _ o xs _ ((Ext.refl fh).tmp no) no (fh.free no) upd_same hp rfl
theorem ok_House_deeds {f : Addr} {fd : FuncData} (F0 : Fun K "deeds" "House.deeds" s_House_deeds f fd) (T : TxC K mg C) (TH : TxH mg) (CI : Cal P w K mg base 4 "in_order" ["deeds"] spInOrder) : FnOk P w K mg base CX0 5 f fd ["self"] (spDeeds K C) := by
  obtain ⟨f1, fd1, G1, g1, kp1, b1⟩ := CI
  refine F0.ok sc_House_deeds (fun vs H Q E h => ?_) (fun cdv A outer s H vs Q E hr h => ?_)
  · obtain ⟨F, a, h, rfl, _⟩ := h
    rfl
  · obtain ⟨F, a, h, rfl, fh, A, o, q⟩ := h
    obtain ⟨dx, ob⟩ := A.ob
    obtain ⟨kvs, hk, dv⟩ := A.kept
    refine ⟨_, pss_one (ps_ret (pe_call G1 hr (by rfl) g1 kp1 b1 .nil pass0 (pa_cons (pe_callTy (cr_listVals (by rfl)) (by rfl) TH.list (by decide +kernel) (pa_cons (pe_bm0 PySem.F.plainAttrs_dict PySem.F.slot_dict_values PySem.F.type_dict_values mt_values (pe_fld (pv 0) rfl)) pa_nil)) pa_nil))), ?_⟩
    refine ⟨_, rfl, a.p, C, dx, _, _, rfl, ob, T.cl, T.nKept, lk_kept _ _ _ _, .inr (.inr (.inl ⟨rfl, .inr ⟨_, hk⟩⟩)), a.ka, kvs, rfl, rfl, hk, fun vw nvw => ?_⟩
    have X1 := (Ext.refl (M := M0) fh).tmp (o := vwO vw a.ka) nvw
    have hk1 : upd H vw (vwO vw a.ka) a.ka = some (.dT kvs) := by rw [upd_ne (ne_of_none hk nvw)]; exact hk
    refine ⟨vw, a.ka, kvs, rfl, upd_same, hk1, fun l nl => ?_⟩
    have X2 := X1.tmp (o := .lst (kvs.map (·.2))) nl
    have fl := X1.ffree nl
    have X3 := X2.frz (X1.free nl) fl upd_same
    refine ⟨_, .ref l, h.kept, rfl, X3.fh, kL_new fl dv.vals, o.uniq, by have := o.few; omega, RetL.step X3 q fun _ z => z⟩
end
end Rw
namespace Rw
open PySem L2
open GxR (TabB TabG Tabbed)
/-! ### a house meets deeds -/
def maxT (t : Int) (new : List Deed) : Int := new.foldl (fun t d => if t < d.t then d.t else t) t
def putE (es : List (Int × Int)) (h n : Int) : List (Int × Int) := if (es.any fun e => decide (e.1 = h)) = true then es.map (fun e => if e.1 = h then (e.1, n) else e) else es ++ [(h, n)]
def endsOf (es : List (Int × Int)) (new : List Deed) : List (Int × Int) := new.foldl (fun es d => match d.w with | .bye => putE es d.h d.n | _ => es) es
theorem endsV_put (es : List (Int × Int)) (h n : Int) : endsV (putE es h n) = putK (endsV es) (Sum.inl h) (V.int n) := by
  unfold putE putK
  have e : ((endsV es).any fun kv => decide (kv.1 = (Sum.inl h : Key))) = es.any fun e => decide (e.1 = h) := by
    unfold endsV
    rw [List.any_map]
    refine congrArg (fun f => es.any f) (funext fun x => ?_)
    show decide ((Sum.inl x.1 : Key) = Sum.inl h) = decide (x.1 = h)
    by_cases c : x.1 = h
    · rw [decide_eq_true c, decide_eq_true (by rw [c])]
    · rw [decide_eq_false c, decide_eq_false fun z => c (Sum.inl.inj z)]
  rw [e]
  split
  · unfold endsV
    rw [List.map_map, List.map_map]
    refine List.map_congr_left fun x _ => ?_
    show ((Sum.inl (if x.1 = h then (x.1, n) else x).1 : Key), V.int (if x.1 = h then (x.1, n) else x).2) = if (Sum.inl x.1 : Key) = Sum.inl h then (Sum.inl x.1, V.int n) else (Sum.inl x.1, V.int x.2)
    by_cases c : x.1 = h
    · rw [if_pos c, if_pos (by rw [c])]
    · rw [if_neg c, if_neg fun z => c (Sum.inl.inj z)]
  · unfold endsV
    rw [List.map_append]
    rfl
theorem putE_len (es : List (Int × Int)) (h n : Int) : (putE es h n).length ≤ es.length + 1 := by
  unfold putE
  split <;> simp
theorem endsV_len (es : List (Int × Int)) : (endsV es).length = es.length := List.length_map ..
structure Met (h : HD) (new : List Deed) (h' : HD) : Prop where
  me : h'.me = h.me
  many : h'.many = h.many
  gone : h'.gone = h.gone
  base : h'.base = h.base
  mark : h'.mark = h.mark
  time : h'.time = maxT h.time new
  kept : h'.kept = h.kept ++ new
  ends : h'.ends = endsOf h.ends new
  can : Canon h'.rows
  mem : ∀ p, mem h'.rows p ↔ mem h.rows p ∨ ∃ d ∈ new, name d = p
  len : h'.rows.length ≤ h.rows.length + new.length
structure Fresh (h : HD) (new : List Deed) : Prop where
  nd : ((h.kept ++ new).map name).Nodup
  few : (h.kept ++ new).length ≤ 400
  ok : ∀ d ∈ new, DeedOk d
theorem endsOf_len : ∀ (new : List Deed) (es : List (Int × Int)), (endsOf es new).length ≤ es.length + new.length
  | [], es => Nat.le_refl _
  | d :: new, es => by
    show (endsOf (match d.w with | .bye => putE es d.h d.n | _ => es) new).length ≤ _
    have := endsOf_len new (match d.w with | .bye => putE es d.h d.n | _ => es)
    have h2 : (match d.w with | .bye => putE es d.h d.n | _ => es).length ≤ es.length + 1 := by
      split
      · exact putE_len _ _ _
      · omega
    rw [List.length_cons]
    omega
theorem endsOf_snoc (es : List (Int × Int)) (new : List Deed) (d : Deed) : endsOf es (new ++ [d]) = match d.w with | .bye => putE (endsOf es new) d.h d.n | _ => endsOf es new := by
  unfold endsOf
  rw [List.foldl_append]
  rfl
theorem maxT_snoc (t : Int) (new : List Deed) (d : Deed) : maxT t (new ++ [d]) = if maxT t new < d.t then d.t else maxT t new := by
  unfold maxT
  rw [List.foldl_append]
  rfl
def spMeet (K : PySem.W.Frag) (C : Addr) : Sp := fun vs H Q _ => ∃ (F : Hp) (a : HA) (h : HD) (v : V) (new : List Deed), vs = [.ref a.p, v] ∧ Same F H ∧ HouseAt K C F H a h ∧ HOk h ∧ (kL kDeed).is F v new ∧ Fresh h new ∧
  ∀ (F' H' : Hp) (a' : HA) (h' : HD), Ext (HM a) F H F' H' → HouseAt K C F' H' a' h' → a'.p = a.p → a'.ka = a.ka → a'.ea = a.ea → Met h new h' → Q .non H'
def spDoNext (K : PySem.W.Frag) (C : Addr) : Sp := fun vs H Q _ => ∃ (F : Hp) (a : HA) (h : HD) (v : V) (wh : What), vs = [.ref a.p, v] ∧ Same F H ∧ HouseAt K C F H a h ∧ HOk h ∧ kWhat.is F v wh ∧ (∀ n, (h.me, n) ∉ h.ends) ∧ Fresh h [⟨h.me, lastOf h.rows h.me + 1, h.time + 1, wh⟩] ∧
  ∀ (F' H' : Hp) (a' : HA) (h' : HD) (u : V), Ext (HM a) F H F' H' → HouseAt K C F' H' a' h' → a'.p = a.p → a'.ka = a.ka → a'.ea = a.ea → kDeed.is F' u ⟨h.me, lastOf h.rows h.me + 1, h.time + 1, wh⟩ → Met h [⟨h.me, lastOf h.rows h.me + 1, h.time + 1, wh⟩] h' → Q u H'
theorem word_bye : ∀ (w : What), decide (V.str (word w) = V.str "bye") = (match w with | .bye => true | _ => false)
  | .chg true _ _ => decide_eq_false fun z => absurd (V.str.inj z) (by decide : ¬ (("add" : Str) = "bye"))
  | .chg false _ _ => decide_eq_false fun z => absurd (V.str.inj z) (by decide : ¬ (("put" : Str) = "bye"))
  | .back _ _ => decide_eq_false fun z => absurd (V.str.inj z) (by decide : ¬ (("back" : Str) = "bye"))
  | .shut r => decide_eq_false fun z => absurd (V.str.inj z) (by decide : ¬ (("seal" : Str) = "bye"))
  | .bye => decide_eq_true rfl
section
variable {P : Program} {w : World} {K : PySem.W.Frag} {mg : Str → Option Value} {base : Heap} {C Pc : Addr}
set_option maxHeartbeats 2000000 in
theorem ok_House__meet {f : Addr} {fd : FuncData} (F0 : Fun K "_meet" "House._meet" s_House__meet f fd) (T : TxC K mg C) (TH : TxH mg) (CN : Cal P w K mg base 1 "name_of" ["deed"] spNameOf) (CW : Cal P w K mg base 1 "word_of" ["deed"] spWordOf) (CF : Cal P w K mg base 3 "fewest" ["rows"] spFewest) (CR : Cal P w K mg base 4 "rows_of" ["deeds"] spRowsOf) :
    FnOk P w K mg base CX0 5 f fd ["self", "new"] (spMeet K C) := by
  obtain ⟨f1, fd1, G1, g1, kp1, b1⟩ := CN
  obtain ⟨f2, fd2, G2, g2, kp2, b2⟩ := CW
  obtain ⟨f3, fd3, G3, g3, kp3, b3⟩ := CF
  obtain ⟨f4, fd4, G4, g4, kp4, b4⟩ := CR
  refine F0.ok sc_House__meet (fun vs H Q E h => ?_) (fun cdv A outer s H vs Q E hr h => ?_)
  · obtain ⟨F, a, h, v, new, rfl, _⟩ := h
    rfl
  · obtain ⟨F, a, h, v, new, rfl, fh, A, o, ⟨nl, xs, rfl, hn, hp⟩, fr, q⟩ := h
    have hr1 : Room 1 _ := hr.mono (by decide)
    have hr3 : Room 3 _ := hr.mono (by decide)
    have hu := hu_of hr
    refine ⟨_, pss_cons (ps_for PassesOwn.never rfl (pi_list (pv 1)) (pg_name (i := 2) sc_House__meet.nd rfl (.inl rfl))
        (pss_cons (ps_dput hu (pe_fld (pv 0) rfl) (pe_call G1 hr1 (by rfl) g1 kp1 b1 .nil pass0 (pa_cons (pv 2) pa_nil)) (pv 2) rfl)
        (pss_cons (ps_fld (pv 0) (pe_callB (call_max2 (by rfl)) (by rfl) TH.max (by decide +kernel) (pa_cons (pe_fld (pv 0) rfl) (pa_cons (pe_ix ix_tup (pv 2) pe_int (fun _ _ => rfl)) pa_nil))) rfl)
        (pss_one (ps_if (pt_cmpR op_eq (pe_call G2 hr1 (by rfl) g2 kp2 b2 .nil pass0 (pa_cons (pv 2) pa_nil)) pe_str (nomark _))
          (pss_one (ps_dput hu (pe_fld (pv 0) rfl) (pe_ix ix_tup (pv 2) pe_int (fun _ _ => rfl)) (pe_ix ix_tup (pv 2) pe_int (fun _ _ => rfl)) rfl)) pss_nil)))))
      (pss_one (ps_fld (pv 0) (pe_call G3 hr3 (by rfl) g3 kp3 b3 .nil pass0 (pa_cons (pe_op op_cat (pe_fld (pv 0) rfl) (pe_call G4 hr (by rfl) g4 kp4 b4 .nil pass0 (pa_cons (pv 1) pa_nil))) pa_nil)) rfl)), ?_⟩
    have hM : ∀ {b : Addr} {u : HO}, F b = some u → ¬ HM a b := fun {b u} e z => by
      rcases z with z | z | z
      · rw [z, A.fp] at e; cases e
      · rw [z, A.fk] at e; cases e
      · rw [z, A.fe] at e; cases e
    have lx := pr_len hp
    have hfew : h.kept.length + new.length ≤ 400 := by have := fr.few; rw [List.length_append] at this; exact this
    refine ⟨_, rfl, nl, rfl, ⟨xs, SqL.of (fh _ _ hn)⟩, for_list (K := K) (a := nl) (xs := xs) (fun i σ H' => ∃ y2, σ = [some (.ref a.p), some (.ref nl), y2] ∧ Ext (HM a) F H F H' ∧ HouseAt K C F H' a { h with kept := h.kept ++ new.take i, time := maxT h.time (new.take i), ends := endsOf h.ends (new.take i) })
      ⟨none, rfl, Ext.refl fh, by simpa [maxT, endsOf] using A⟩ (fun i σ H' _ ⟨_, _, X, _⟩ => SqL.of (X.fh _ _ hn)) ?_ ?_⟩
    · rintro i x σ H1 hi ⟨y2, rfl, X1, A1⟩
      obtain ⟨d, hd, hxd⟩ := pr_get hp hi
      obtain ⟨ad, uw, rfl, had, hwd⟩ := id hxd
      have il : i < new.length := (List.getElem?_eq_some_iff.mp hd).1
      have eT : new.take (i + 1) = new.take i ++ [d] := by rw [List.take_add_one, hd]; rfl
      have lt : (new.take i).length ≤ i := List.length_take_le _ _
      have h1p := X1.fh _ _ had
      obtain ⟨dx, ob⟩ := A1.ob
      obtain ⟨kvs, hk, dv⟩ := A1.kept
      have lkv : kvs.length ≤ 400 := by rw [dv.len, List.length_append]; omega
      -- self._kept[name_of(deed)] = deed
      refine ⟨_, rfl, _, rfl, a.p, C, dx, _, _, rfl, ob, T.cl, T.nKept, lk_kept _ _ _ _, _, rfl, F, .ref ad, d, rfl, X1.fh, hxd, fun kp np => ?_⟩
      have npk : a.p ≠ kp := ne_of_none ob np
      have nkk : a.ka ≠ kp := ne_of_none hk np
      have nek : a.ea ≠ kp := ne_of_none A1.ends np
      refine ⟨a.ka, _, rfl, DPut.t (k := keyD d) (by rw [upd_ne nkk]; exact hk) upd_same (by rw [sizeLine_eq]; omega), ?_⟩
      have freshN : name d ∉ (h.kept ++ new.take i).map name := fun hm => by
        have nd := fr.nd
        rw [List.map_append] at nd hm
        have es : new = new.take i ++ d :: new.drop (i + 1) := by
          have ed : new.drop i = d :: new.drop (i + 1) := by
            rw [List.drop_eq_getElem_cons il]
            have := List.getElem?_eq_getElem il
            rw [hd] at this
            rw [← Option.some.inj this]
          have := (List.take_append_drop i new).symm
          rwa [ed] at this
        rw [es, List.map_append, ← List.append_assoc] at nd
        exact (List.nodup_append.mp nd).2.2 _ hm _ (by simp) rfl
      have eput : putK kvs (keyD d) (.ref ad) = kvs ++ [(keyD d, .ref ad)] := by
        refine putK_new fun hm => ?_
        rw [dv.keys] at hm
        obtain ⟨e, he, ee⟩ := List.mem_map.mp hm
        exact freshN (List.mem_map.mpr ⟨e, he, kk_inj ee⟩)
      rw [eput]
      have X2 := (X1.tmp (o := .tup [.int d.h, .int d.n]) np).put (o := .dT (kvs ++ [(keyD d, .ref ad)])) (.inr (.inr (.inl rfl))) A1.fk
      have ob2 : upd (upd H1 kp (.tup [.int d.h, .int d.n])) a.ka (.dT (kvs ++ [(keyD d, .ref ad)])) a.p = some (.ins C dx (hflds a h.me h.many (maxT h.time (new.take i)))) := by rw [upd_ne A1.pk, upd_ne npk]; exact ob
      have hk2 : upd (upd H1 kp (.tup [.int d.h, .int d.n])) a.ka (.dT (kvs ++ [(keyD d, .ref ad)])) a.ka = some (.dT (kvs ++ [(keyD d, .ref ad)])) := upd_same
      have he2 : upd (upd H1 kp (.tup [.int d.h, .int d.n])) a.ka (.dT (kvs ++ [(keyD d, .ref ad)])) a.ea = some (.dK (endsV (endsOf h.ends (new.take i)))) := by rw [upd_ne A1.ke.symm, upd_ne nek]; exact A1.ends
      revert X2 ob2 hk2 he2
      generalize upd (upd H1 kp (.tup [.int d.h, .int d.n])) a.ka (.dT (kvs ++ [(keyD d, .ref ad)])) = H2
      intro X2 ob2 hk2 he2
      -- self._time = max(self._time, deed[2])
      refine ⟨_, rfl, a.p, C, dx, _, _, rfl, ob2, T.cl, T.nTime, lk_time _ _ _ _, _, rfl, ad, _, 2, _, rfl, rfl, SqT.of (X2.fh _ _ had), rfl, _, _, rfl, _, rfl, a.p, C, dx, _, rfl, ob2, T.cl, T.nTime, hf_len _ _ _ _, ?_⟩
      rw [pf_time]
      have et : (if d.t > maxT h.time (new.take i) then d.t else maxT h.time (new.take i)) = maxT h.time (new.take (i + 1)) := by rw [eT, maxT_snoc]
      rw [et]
      have X3 := X2.put (o := .ins C dx (hflds a h.me h.many (maxT h.time (new.take (i + 1))))) (.inr (.inl rfl)) A.fp
      have ob3 : upd H2 a.p (.ins C dx (hflds a h.me h.many (maxT h.time (new.take (i + 1))))) a.p = some (.ins C dx (hflds a h.me h.many (maxT h.time (new.take (i + 1))))) := upd_same
      have hk3 : upd H2 a.p (.ins C dx (hflds a h.me h.many (maxT h.time (new.take (i + 1))))) a.ka = some (.dT (kvs ++ [(keyD d, .ref ad)])) := by rw [upd_ne A1.pk.symm]; exact hk2
      have he3 : upd H2 a.p (.ins C dx (hflds a h.me h.many (maxT h.time (new.take (i + 1))))) a.ea = some (.dK (endsV (endsOf h.ends (new.take i)))) := by rw [upd_ne A1.pe.symm]; exact he2
      revert X3 ob3 hk3 he3
      generalize upd H2 a.p (.ins C dx (hflds a h.me h.many (maxT h.time (new.take (i + 1))))) = H3
      intro X3 ob3 hk3 he3
      have dv3 : DVal (kDeed.is F) keyD (kvs ++ [(keyD d, .ref ad)]) (h.kept ++ new.take (i + 1)) := by
        rw [eT, ← List.append_assoc]
        exact dv.snoc hxd
      have le : (endsOf h.ends (new.take i)).length ≤ 800 := by
        have h1 := endsOf_len (new.take i) h.ends
        have h2 := o.le
        omega
      -- if word_of(deed) == 'bye'
      refine ⟨_, rfl, F, .ref ad, d, rfl, X3.fh, hxd, rfl, _, rfl, ?_⟩
      rw [word_bye]
      cases hw : d.w with
      | bye =>
        refine iteT ⟨_, rfl, ad, _, 1, _, rfl, rfl, SqT.of (X3.fh _ _ had), rfl, _, rfl, a.p, C, dx, _, _, rfl, ob3, T.cl, T.nEnds, lk_ends _ _ _ _, _, rfl, ad, _, 0, _, rfl, rfl, SqT.of (X3.fh _ _ had), rfl, a.ea, _, rfl, DPut.k (k := Sum.inl d.h) he3 (by rw [endsV_len, sizeLine_eq]; omega), ?_⟩
        refine ⟨_, rfl, X3.put (.inr (.inr (.inr rfl))) A1.fe, ⟨dx, by rw [upd_ne A1.pe]; exact ob3⟩, A.fp, A.rows, ⟨_, by rw [upd_ne A1.ke]; exact hk3, dv3⟩, A.fk, ?_, A.fe, A.gone, A.base, A.mark⟩
        show upd H3 a.ea _ a.ea = some (.dK (endsV (endsOf h.ends (new.take (i + 1)))))
        rw [upd_same, eT, endsOf_snoc, hw]
        dsimp only
        rw [endsV_put]
      | chg bb k z =>
        refine iteF ⟨_, rfl, X3, ⟨dx, ob3⟩, A.fp, A.rows, ⟨_, hk3, dv3⟩, A.fk, ?_, A.fe, A.gone, A.base, A.mark⟩
        show H3 a.ea = some (.dK (endsV (endsOf h.ends (new.take (i + 1)))))
        rw [he3, eT, endsOf_snoc, hw]
      | back k n =>
        refine iteF ⟨_, rfl, X3, ⟨dx, ob3⟩, A.fp, A.rows, ⟨_, hk3, dv3⟩, A.fk, ?_, A.fe, A.gone, A.base, A.mark⟩
        show H3 a.ea = some (.dK (endsV (endsOf h.ends (new.take (i + 1)))))
        rw [he3, eT, endsOf_snoc, hw]
      | shut rows =>
        refine iteF ⟨_, rfl, X3, ⟨dx, ob3⟩, A.fp, A.rows, ⟨_, hk3, dv3⟩, A.fk, ?_, A.fe, A.gone, A.base, A.mark⟩
        show H3 a.ea = some (.dK (endsV (endsOf h.ends (new.take (i + 1)))))
        rw [he3, eT, endsOf_snoc, hw]
    · rintro σ H1 ⟨y2, rfl, X1, A1⟩
      rw [lx, List.take_length] at A1
      obtain ⟨dx, ob⟩ := A1.ob
      obtain ⟨ra, ys, er, hra, hpr⟩ := A1.rows
      cases er
      -- self._rows = fewest(self._rows + rows_of(new))
      refine ⟨_, rfl, a.p, C, dx, _, _, rfl, ob, T.cl, T.nRows, lk_rows _ _ _ _, _, rfl, F, .ref nl, new, rfl, X1.fh, ⟨nl, xs, rfl, hn, hp⟩, by omega, fun F2 H2 b vs out X2 nb fb hb hout fw => ?_⟩
      have la := pr_len hpr
      have lo := fw.len
      rw [List.length_map] at lo
      have lro := o.lr
      have lvs := pr_len hout
      refine ⟨a.ra, b, ys, vs, rfl, rfl, X2.same _ _ (X1.fh _ _ hra), hb, by rw [sizeLine_eq]; simp only at la; omega, fun p np => ?_⟩
      have X3 := X2.lay (o := .lst (ys ++ vs)) np
      have kc : (kL kRow).is (upd F2 p (.lst (ys ++ vs))) (.ref p) (h.rows ++ out) := kL_new (X2.fh.free np) (pr_append (pr_mono (fun _ _ z => kRow.mono X2.ff z) hpr) hout)
      refine ⟨_, .ref p, h.rows ++ out, rfl, X3.fh, kc, ?_, by rw [List.length_append]; omega, fun F4 H4 c ws out4 X4 nc fc hc hout4 fw4 => ?_⟩
      · intro r hr'
        rcases List.mem_append.mp hr' with z | z
        · exact o.can.ok r z
        · exact fw.can.ok r z
      have X5 := X3.trans X4
      have A5 := A1.step0 X5
      obtain ⟨dx5, ob5⟩ := A5.ob
      have X6 := X5.frz (X3.free nc) fc hc
      have A6 := A1.step0 X6
      refine ⟨_, rfl, a.p, C, dx5, _, rfl, ob5, T.cl, T.nRows, hf_len _ _ _ _, ?_⟩
      rw [pf_rows]
      have X7 := (X1.trans (X6.up (M := HM a))).put (o := .ins C dx5 (hflds { a with ra := c } h.me h.many (maxT h.time new))) (.inr (.inl rfl)) A6.fp
      obtain ⟨kvs, hk, dv⟩ := A6.kept
      refine q (upd F4 c (.lst ws)) _ { a with ra := c } { h with kept := h.kept ++ new, time := maxT h.time new, ends := endsOf h.ends new, rows := out4 } X7 ⟨⟨dx5, upd_same⟩, A6.fp, kL_new fc hout4, ⟨kvs, by rw [upd_ne A6.pk.symm]; exact hk, dv⟩, A6.fk, by rw [upd_ne A6.pe.symm]; exact A6.ends, A6.fe, A6.gone, A6.base, A6.mark⟩ rfl rfl rfl ⟨rfl, rfl, rfl, rfl, rfl, rfl, rfl, rfl, fw4.can, fun p => ?_, ?_⟩
      · rw [fw4.mem, mem_append, fw.mem, rowD_mem]
      · have := fw4.len
        rw [List.length_append] at this
        show out4.length ≤ _
        omega
end
end Rw
namespace Rw
open PySem L2
open GxR (TabB TabG Tabbed)
/-! ### what a house is asked -/
section
variable {K : PySem.W.Frag} {C Pc : Addr} {F H F' H' : Hp} {a : HA} {h : HD}
theorem HouseAt.np (A : HouseAt K C F H a h) (t : TabG H Pc) : a.p ≠ Pc ∧ a.ka ≠ Pc ∧ a.ea ≠ Pc := by
  obtain ⟨pp, hp, _⟩ := t
  obtain ⟨dx, ob⟩ := A.ob
  obtain ⟨kvs, hk, _⟩ := A.kept
  refine ⟨fun e => ?_, fun e => ?_, fun e => ?_⟩
  · rw [e, hp] at ob; cases ob
  · rw [e, hp] at hk; cases hk
  · have := A.ends; rw [e, hp] at this; cases this
theorem HouseAt.grow (A : HouseAt K C F H a h) (t : TabG H Pc) (X : Ext (· = Pc) F H F' H') : HouseAt K C F' H' a h :=
  A.step X (A.np t).1 (A.np t).2.1 (A.np t).2.2
theorem LineOf.line (o : HOk h) {line : List Deed} (l : LineOf h.kept line) : Line line :=
  line_of l o.ok o.uniq (Nat.le_trans l.len o.few)
end
def spLacks (K : PySem.W.Frag) (C : Addr) : Sp := fun vs H Q _ => ∃ (F : Hp) (a : HA) (h : HD) (v : V) (rs : List Row), vs = [.ref a.p, v] ∧ Same F H ∧ HouseAt K C F H a h ∧ HOk h ∧ (kL kRow).is F v rs ∧ RowsOk rs ∧ RetL M0 F H kRow (Without rs h.rows) Q
def givesOf (line : List Deed) (rs : List Row) : List Deed := line.filter fun d => memB rs (name d)
def spGives (K : PySem.W.Frag) (C Pc : Addr) : Sp := fun vs H Q _ => ∃ (F : Hp) (a : HA) (h : HD) (v : V) (rs : List Row), vs = [.ref a.p, v] ∧ Same F H ∧ HouseAt K C F H a h ∧ HOk h ∧ (kL kRow).is F v rs ∧ RowsOk rs ∧ TabG H Pc ∧ F Pc = none ∧
  RetP Pc F H kDeed (fun out => ∃ line, LineOf h.kept line ∧ out = givesOf line rs) Q
section
variable {P : Program} {w : World} {K : PySem.W.Frag} {mg : Str → Option Value} {base : Heap} {C Pc : Addr}
theorem ok_House_worths {f : Addr} {fd : FuncData} (F0 : Fun K "worths" "House.worths" s_House_worths f fd) (T : TxC K mg C) (CB : Cal P w K mg base 7 "worths_behind" ["base", "line", "gone"] (spBehind Pc)) (CD : CalM P w K mg base C 5 "deeds" ["self"] (spDeeds K C)) :
    FnOk P w K mg base CX0 8 f fd ["self"] (spHWorths K C Pc) := by
  obtain ⟨f1, fd1, G1, g1, kp1, b1⟩ := CB
  obtain ⟨f2, fd2, G2, m2, b2⟩ := CD
  refine F0.ok sc_House_worths (fun vs H Q E h => ?_) (fun cdv A outer s H vs Q E hr h => ?_)
  · obtain ⟨F, a, h, rfl, _⟩ := h
    rfl
  · obtain ⟨F, a, h, rfl, fh, A, o, tab, fP, q⟩ := h
    have hr5 : Room 5 _ := hr.mono (by decide)
    obtain ⟨dx, ob⟩ := A.ob
    refine ⟨_, pss_one (ps_ret (pe_call G1 hr (by rfl) g1 kp1 b1 .nil pass0 (pa_cons (pe_fld (pv 0) rfl) (pa_cons (pe_meth0 (pv 0) T.cl m2 G2 hr5 b2 .nil pass0) (pa_cons (pe_fld (pv 0) rfl) pa_nil))))), ?_⟩
    refine ⟨_, rfl, a.p, C, dx, _, _, rfl, ob, T.cl, T.nBase, lk_base _ _ _ _, _, rfl, a.p, dx, _, rfl, ob, lk_deeds _ _ _ _, F, a, h, rfl, fh, A, o, fun F1 H1 d vs line X1 nd fd hd hp lo => ?_⟩
    have X2 := X1.frz nd fd hd
    have A2 := A.step0 X2
    obtain ⟨dx2, ob2⟩ := A2.ob
    have S2 := (GS.start fh tab fP).step X2
    refine ⟨_, rfl, a.p, C, dx2, _, _, rfl, ob2, T.cl, T.nGone, lk_gone _ _ _ _, ?_⟩
    exact ⟨_, .ref a.ba, .ref d, .ref a.ga, h.base, line, h.gone, rfl, X2.fh, A2.base, o.lb, kL_new fd hp, A2.gone, lo.line o, o.gv, Nat.le_trans o.lg (by decide), S2.tab, S2.fP, fun F4 H4 b vs4 xs4 G na fa ha hp4 e => q F4 H4 b vs4 xs4 (S2.trans G) (S2.ext.free na) fa ha hp4 ⟨line, lo, e⟩⟩
theorem ok_House_lacks {f : Addr} {fd : FuncData} (F0 : Fun K "lacks" "House.lacks" s_House_lacks f fd) (T : TxC K mg C) (CC : CalCheck P w K mg base) (CW : Cal P w K mg base 4 "without" ["one", "other"] spWithout) :
    FnOk P w K mg base CX0 6 f fd ["self", "rows"] (spLacks K C) := by
  obtain ⟨f1, fd1, G1, g1, kp1, b1⟩ := CC
  obtain ⟨f2, fd2, G2, g2, kp2, b2⟩ := CW
  refine F0.ok sc_House_lacks (fun vs H Q E h => ?_) (fun cdv A outer s H vs Q E hr h => ?_)
  · obtain ⟨F, a, h, v, rs, rfl, _⟩ := h
    rfl
  · obtain ⟨F, a, h, v, rs, rfl, fh, A, o, hv, hok, q⟩ := h
    have hr4 : Room 4 _ := hr.mono (by decide)
    refine ⟨_, pss_cons (ps_expr (pe_call G1 hr (by rfl) g1 kp1 b1 .nil pass0 (pa_cons (pv 1) pa_nil))) (pss_one (ps_ret (pe_call G2 hr4 (by rfl) g2 kp2 b2 .nil pass0 (pa_cons (pv 1) (pa_cons (pe_fld (pv 0) rfl) pa_nil))))), ?_⟩
    refine ⟨_, rfl, v, rs, rfl, (kL kRow).mono fh hv, hok, fun H1 s1 => ?_⟩
    have X := ext_of_same fh s1
    have A1 := A.step0 X
    obtain ⟨dx, ob⟩ := A1.ob
    have l1 := hok.1
    have l2 := o.lr
    exact ⟨_, rfl, _, rfl, a.p, C, dx, _, _, rfl, ob, T.cl, T.nRows, lk_rows _ _ _ _, F, v, .ref a.ra, rs, h.rows, rfl, X.fh, hv, A.rows, rows_valid hok.2, o.can.ok, by omega, by omega, RetL.step X q fun _ z => z⟩
theorem ok_House_gives {f : Addr} {fd : FuncData} (F0 : Fun K "gives" "House.gives" s_House_gives f fd) (T : TxC K mg C) (CC : CalCheck P w K mg base) (CD : CalM P w K mg base C 5 "deeds" ["self"] (spDeeds K C)) (CI : Cal P w K mg base 2 "is_in" ["rows", "house", "number"] (spIsIn Pc)) :
    FnOk P w K mg base CX0 6 f fd ["self", "rows"] (spGives K C Pc) := by
  obtain ⟨f1, fd1, G1, g1, kp1, b1⟩ := CC
  obtain ⟨f2, fd2, G2, m2, b2⟩ := CD
  obtain ⟨f3, fd3, G3, g3, kp3, b3⟩ := CI
  refine F0.ok sc_House_gives (fun vs H Q E h => ?_) (fun cdv A outer s H vs Q E hr h => ?_)
  · obtain ⟨F, a, h, v, rs, rfl, _⟩ := h
    rfl
  · obtain ⟨F, a, h, v, rs, rfl, fh, A, o, hv, hok, tab, fP, q⟩ := h
    have hr2 : Room 2 _ := hr.mono (by decide)
    refine ⟨_, pss_cons (ps_expr (pe_call G1 hr (by rfl) g1 kp1 b1 .nil pass0 (pa_cons (pv 1) pa_nil))) (pss_one (ps_ret (pe_lc (own := [("deed", 2)]) (g := gName 2) (tt := tB (tCall (spIsIn Pc) [] E0 (tCons (tVar 1) (tCons (tOp (rIxT K) (tVar 2) (tC (.int 0))) (tCons (tOp (rIxT K) (tVar 2) (tC (.int 1))) tNil))))) (te := tVar 2) (by rfl) sc_House_gives.nd (pi_list (pe_meth0 (pv 0) T.cl m2 G2 hr b2 .nil pass0))
        (blkOk_by (own := [("deed", 2)]) (N := ["self", "rows", "deed"]) (sc := defScope s_House_gives) (by decide +kernel)) (fun _ _ _ _ _ => pg_name (i := 2) sc_House_gives.nd rfl (Or.inl rfl)) (fun _ _ _ _ _ => pts_one (pt_val (pe_call G3 hr2 (by rfl) g3 kp3 b3 .nil pass0 (pa_cons (pv 1) (pa_cons (pe_ix ix_tup (pv 2) pe_int (fun _ _ => rfl)) (pa_cons (pe_ix ix_tup (pv 2) pe_int (fun _ _ => rfl)) pa_nil))))))
        (fun _ _ _ _ _ => pv 2)))), ?_⟩
    refine ⟨_, rfl, v, rs, rfl, (kL kRow).mono fh hv, hok, fun H1 s1 => ?_⟩
    have X := ext_of_same fh s1
    have A1 := A.step0 X
    obtain ⟨dx, ob⟩ := A1.ob
    refine ⟨_, rfl, a.p, dx, _, rfl, ob, lk_deeds _ _ _ _, F, a, h, rfl, X.fh, A1, o, fun F2 H2 d xs line X2 nd fd hd hp lo => ?_⟩
    have X3 := X.trans (X2.frz nd fd hd)
    have S3 := (GS.start fh tab fP).step X3
    have hd3 : upd F2 d (.lst xs) d = some (.lst xs) := upd_same
    have hp3 := pr_mono (fun _ _ z => kDeed.mono (same_upd (o := .lst xs) fd) z) hp
    have hv3 := (kL kRow).mono X3.ff hv
    revert S3 hd3 hp3 hv3
    generalize upd F2 d (.lst xs) = F3
    intro S3 hd3 hp3 hv3
    have l4 := Nat.le_trans lo.len o.few
    refine ⟨d, rfl, ⟨_, SqL.of (S3.same _ _ hd3)⟩, fun D nD => ?_⟩
    have fD := S3.same.free nD
    have D0 := S3.ext.free nD
    refine it_by (walk_list (K := K) (a := d) (xs := xs)) (fun i H' => ∃ acc, GS Pc F H F3 H' ∧ H' D = some (.lst acc) ∧ Paired (kDeed.is F3) acc (givesOf (line.take i) rs))
      ⟨[], S3.tmp nD, upd_same, .nil⟩ (fun i H' _ ⟨_, S, _⟩ => SqL.of (S.same _ _ hd3)) ?_ ?_
    · rintro j x _ H4 hj ⟨acc, S4, hD, hac⟩ ⟨rfl, hx⟩
      obtain ⟨e, he, hev⟩ := pr_get hp3 hx
      obtain ⟨ad, ud, rfl, had, _⟩ := id hev
      have eT : givesOf (line.take (j + 1)) rs = givesOf (line.take j) rs ++ [e].filter fun d => memB rs (name d) := by
        unfold givesOf
        rw [List.take_add_one, he, ← List.filter_append]; rfl
      have lac : acc.length ≤ 400 := by
        rw [pr_len hac]
        have := List.length_filter_le (fun d => memB rs (name d)) (line.take j)
        have := List.length_take_le' j line
        unfold givesOf
        omega
      have h4 := S4.same _ _ had
      refine ⟨rfl, _, rfl, _, rfl, ad, _, 0, _, rfl, rfl, SqT.of h4, rfl, _, rfl, ad, _, 1, _, rfl, rfl, SqT.of h4, rfl, F3, v, rs, e.h, e.n, rfl, S4.same, hv3, S4.tab, S4.fP, fun b H5 eb X5 t5 => ?_⟩
      have S5 := S4.grow X5 t5
      have hD5 := X5.hh _ _ hD (S4.ne hD)
      have ebv : b = memB rs (name e) := by
        cases b with
        | true => exact (memB_iff.mpr (eb.mp rfl)).symm
        | false =>
          cases z : memB rs (name e) with
          | false => rfl
          | true => exact absurd (eb.mpr (memB_iff.mp z)) (by simp)
      refine ⟨b, rfl, ?_⟩
      cases b with
      | true =>
        refine ⟨_, rfl, acc, hD5, by rw [sizeLine_eq]; omega, acc ++ [.ref ad], S5.put D0 fD hD5, upd_same, ?_⟩
        rw [eT, List.filter_cons_of_pos (by show memB rs (name e) = true; exact ebv.symm)]
        exact pr_snoc hac hev
      | false =>
        refine ⟨acc, S5, hD5, ?_⟩
        rw [eT, List.filter_cons_of_neg (by show ¬ memB rs (name e) = true; rw [← ebv]; simp), List.filter_nil, List.append_nil]
        exact hac
    · rintro H4 ⟨acc, S4, hD, hac⟩
      rw [pr_len hp3, List.take_length] at hac
      exact q F3 H4 D acc _ S4 D0 fD hD hac ⟨line, lo, rfl⟩
end
end Rw
namespace Rw
open PySem L2
open GxR (TabB TabG Tabbed)
/-! ### a house does its next deed, takes others', begins -/
theorem endsV_none {es : List (Int × Int)} {m : Int} (h : ∀ n, (m, n) ∉ es) : valV (endsV es) (Sum.inl m : Key) = none := by
  unfold valV endsV
  rw [List.find?_eq_none.mpr]
  · rfl
  · intro kv hkv
    obtain ⟨e, he, rfl⟩ := List.mem_map.mp hkv
    simp only [decide_eq_true_eq]
    intro z
    have := Sum.inl.inj z
    exact h e.2 (by rw [← this]; exact he)
def HP (Pc : Addr) (a : HA) : Addr → Prop := fun b => b = Pc ∨ HM a b
def nextD (h : HD) (wh : What) : Deed := ⟨h.me, lastOf h.rows h.me + 1, h.time + 1, wh⟩
def spDo (K : PySem.W.Frag) (C : Addr) : Sp := fun vs H Q _ => ∃ (F : Hp) (a : HA) (h : HD) (b : Bool) (k x : Int), vs = [.ref a.p, .str (wStr b), .int k, .int x] ∧ Same F H ∧ HouseAt K C F H a h ∧ HOk h ∧ 0 ≤ k ∧ k ≤ 5 ∧ -LIM ≤ x ∧ x ≤ LIM ∧ (∀ n, (h.me, n) ∉ h.ends) ∧ Fresh h [nextD h (.chg b k x)] ∧
  ∀ (F' H' : Hp) (a' : HA) (h' : HD) (u : V), Ext (HM a) F H F' H' → HouseAt K C F' H' a' h' → a'.p = a.p → a'.ka = a.ka → a'.ea = a.ea → kDeed.is F' u (nextD h (.chg b k x)) → Met h [nextD h (.chg b k x)] h' → Q u H'
def newOf (line : List Deed) (rows : List Row) : List Deed := line.filter fun d => !memB rows (name d)
def spTake (K : PySem.W.Frag) (C Pc : Addr) : Sp := fun vs H Q _ => ∃ (F : Hp) (a : HA) (h : HD) (v : V) (ds : List Deed), vs = [.ref a.p, v] ∧ Same F H ∧ HouseAt K C F H a h ∧ HOk h ∧ (kL kDeed).is F v ds ∧ (∀ d ∈ ds, DeedOk d ∧ d.h < h.many) ∧ Uniq ds ∧ h.kept.length + ds.length ≤ 400 ∧ TabG H Pc ∧ F Pc = none ∧
  ∀ (F' H' : Hp) (a' : HA) (h' : HD) (line : List Deed) (b : Addr) (vs : List V), LineOf ds line → Ext (HP Pc a) F H F' H' → TabG H' Pc → HouseAt K C F' H' a' h' → a'.p = a.p → a'.ka = a.ka → a'.ea = a.ea → Met h (newOf line h.rows) h' → Fresh h (newOf line h.rows) → H b = none → F' b = none → H' b = some (.lst vs) → Paired (kPt.is F') vs ((newOf line h.rows).map name) → Q (.ref b) H'
def newHouse (me many : Int) : HD := ⟨me, many, 0, [], [], [], [], zeros, (0, 0, 0)⟩
def spInit (K : PySem.W.Frag) (C km : Addr) : Sp := fun vs H Q _ => ∃ (F : Hp) (x dx : Addr) (me many : Int), vs = [.ref x, .int me, .int many] ∧ Same F H ∧ H x = some (.ins C dx []) ∧ F x = none ∧ 2 ≤ many ∧ many ≤ 6 ∧ 0 ≤ me ∧ me < many ∧ (∀ F, SqT K F km [.int 0, .int 0, .int 0]) ∧
  ∀ (F' H' : Hp) (a : HA), Ext (· = x) F H F' H' → a.p = x → HouseAt K C F' H' a (newHouse me many) → Q .non H'
theorem newHouse_ok (me many : Int) : HOk (newHouse me many) :=
  ⟨List.nodup_nil, fun _ h => (List.not_mem_nil h).elim, Nat.zero_le _, ⟨fun _ h => (List.not_mem_nil h).elim, .nil⟩, Nat.zero_le _, Nat.zero_le _, fun _ h => (List.not_mem_nil h).elim, Nat.zero_le _, rfl, fun _ h => (List.not_mem_nil h).elim⟩
theorem fresh_new {h : HD} {ds line : List Deed} (o : HOk h) (l : LineOf ds line) (ok : ∀ d ∈ ds, DeedOk d) (uq : Uniq ds) (few : h.kept.length + ds.length ≤ 400) : Fresh h (newOf line h.rows) := by
  have ll := l.len
  have sub : ∀ d ∈ newOf line h.rows, d ∈ line ∧ ¬ mem h.rows (name d) := fun d hd => by
    obtain ⟨h1, h2⟩ := List.mem_filter.mp hd
    refine ⟨h1, fun z => ?_⟩
    rw [memB_iff.mpr z] at h2
    cases h2
  have L : Line line := line_of l ok uq (by omega)
  refine ⟨?_, ?_, fun d hd => ok d ((l.mem d).mp (sub d hd).1)⟩
  · rw [List.map_append]
    refine List.nodup_append.mpr ⟨o.nd, ?_, ?_⟩
    · refine List.Nodup.sublist ?_ L.names
      exact List.Sublist.map _ List.filter_sublist
    · rintro p hp q hq rfl
      obtain ⟨d, hd, rfl⟩ := List.mem_map.mp hp
      obtain ⟨e, he, ee⟩ := List.mem_map.mp hq
      exact (sub e he).2 (by rw [ee]; exact o.held d hd)
  · have := List.length_filter_le (fun d => !memB h.rows (name d)) line
    unfold newOf
    rw [List.length_append]
    omega
section
variable {P : Program} {w : World} {K : PySem.W.Frag} {mg : Str → Option Value} {base : Heap} {C Pc : Addr}
theorem ok_House__do_next {f : Addr} {fd : FuncData} (F0 : Fun K "_do_next" "House._do_next" s_House__do_next f fd) (T : TxC K mg C) (CL : Cal P w K mg base 4 "last_in" ["rows", "house"] spLastIn) (CM : CalM P w K mg base C 5 "_meet" ["self", "new"] (spMeet K C)) :
    FnOk P w K mg base CX0 6 f fd ["self", "what"] (spDoNext K C) := by
  obtain ⟨f1, fd1, G1, g1, kp1, b1⟩ := CL
  obtain ⟨f2, fd2, G2, m2, b2⟩ := CM
  refine F0.ok sc_House__do_next (fun vs H Q E h => ?_) (fun cdv A outer s H vs Q E hr h => ?_)
  · obtain ⟨F, a, h, v, wh, rfl, _⟩ := h
    rfl
  · obtain ⟨F, a, h, v, wh, rfl, fh, A, o, hv, ne, fr, q⟩ := h
    have hr4 : Room 4 _ := hr.mono (by decide)
    have hu := hu_of hr
    obtain ⟨dx, ob⟩ := A.ob
    refine ⟨_, pss_cons (ps_if (pt_cmp (pc_din hu (pe_fld (pv 0) rfl) (pe_fld (pv 0) rfl))) (pss_one ps_never) pss_nil)
      (pss_cons (ps_set (i := 2) sc_House__do_next.nd rfl (.inl rfl) (pe_tup (pa_cons (pe_fld (pv 0) rfl) (pa_cons (pe_op op_add (pe_call G1 hr4 (by rfl) g1 kp1 b1 .nil pass0 (pa_cons (pe_fld (pv 0) rfl) (pa_cons (pe_fld (pv 0) rfl) pa_nil))) pe_int) (pa_cons (pe_op op_add (pe_fld (pv 0) rfl) pe_int) (pa_cons (pv 1) pa_nil))))))
      (pss_cons (ps_expr (pe_meth (pv 0) T.cl m2 G2 hr b2 .nil pass0 (pa_cons (pe_lst (pa_cons (pv 2) pa_nil)) pa_nil)))
      (pss_one (ps_ret (pv 2))))), ?_⟩
    refine ⟨_, rfl, a.p, C, dx, _, _, rfl, ob, T.cl, T.nMe, lk_me _ _ _ _, _, rfl, a.p, C, dx, _, _, rfl, ob, T.cl, T.nEnds, lk_ends _ _ _ _, a.ea, _, rfl, DGet.k (k := Sum.inl h.me) A.ends, false, by rw [endsV_none ne]; rfl, iteF ?_⟩
    refine ⟨_, rfl, a.p, C, dx, _, _, rfl, ob, T.cl, T.nMe, lk_me _ _ _ _, _, rfl, a.p, C, dx, _, _, rfl, ob, T.cl, T.nRows, lk_rows _ _ _ _, _, rfl, a.p, C, dx, _, _, rfl, ob, T.cl, T.nMe, lk_me _ _ _ _, F, .ref a.ra, h.rows, h.me, rfl, fh, A.rows, Nat.le_trans o.lr (by decide), fun H1 X1 => ?_⟩
    have A1 := A.step0 X1
    obtain ⟨dx1, ob1⟩ := A1.ob
    refine ⟨_, _, rfl, rfl, _, rfl, a.p, C, dx1, _, _, rfl, ob1, T.cl, T.nTime, lk_time _ _ _ _, _, _, rfl, rfl, _, rfl, by show 4 ≤ sizeLine; decide, fun p np => ?_⟩
    have X2 := X1.lay (o := .tup [.int h.me, .int (lastOf h.rows h.me + 1), .int (h.time + 1), v]) np
    have A2 := A.step0 X2
    have kd : kDeed.is (upd F p (.tup [.int h.me, .int (lastOf h.rows h.me + 1), .int (h.time + 1), v])) (.ref p) ⟨h.me, lastOf h.rows h.me + 1, h.time + 1, wh⟩ := ⟨p, v, rfl, upd_same, kWhat.mono X2.ff hv⟩
    revert X2 A2 kd
    generalize upd F p (.tup [V.int h.me, .int (lastOf h.rows h.me + 1), .int (h.time + 1), v]) = F2
    generalize upd H1 p (.tup [V.int h.me, .int (lastOf h.rows h.me + 1), .int (h.time + 1), v]) = H2
    intro X2 A2 kd
    obtain ⟨dx2, ob2⟩ := A2.ob
    refine ⟨_, rfl, a.p, dx2, _, rfl, ob2, lk_meet _ _ _ _, _, rfl, by show 1 ≤ sizeLine; decide, fun l nl => ?_⟩
    have X3 := X2.lay (o := .lst [.ref p]) nl
    have kl : (kL kDeed).is (upd F2 l (.lst [.ref p])) (.ref l) [⟨h.me, lastOf h.rows h.me + 1, h.time + 1, wh⟩] := kL_new (X2.fh.free nl) (.cons kd .nil)
    refine ⟨_, a, h, .ref l, _, rfl, X3.fh, A.step0 X3, o, kl, fr, fun F4 H4 a' h' X4 A4 e1 e2 e3 mt => ?_⟩
    exact ⟨_, rfl, q F4 H4 a' h' (.ref p) (X3.up.trans X4) A4 e1 e2 e3 (kDeed.mono ((same_upd (X2.fh.free nl)).trans X4.ff) kd) mt⟩
theorem ok_House_do {f : Addr} {fd : FuncData} (F0 : Fun K "do" "House.do" s_House_do f fd) (T : TxC K mg C) (CI : Cal P w K mg base 2 "is_change" ["parts"] spIsChange) (CN : CalM P w K mg base C 6 "_do_next" ["self", "what"] (spDoNext K C)) :
    FnOk P w K mg base CX0 7 f fd ["self", "word", "key", "worth"] (spDo K C) := by
  obtain ⟨f1, fd1, G1, g1, kp1, b1⟩ := CI
  obtain ⟨f2, fd2, G2, m2, b2⟩ := CN
  refine F0.ok sc_House_do (fun vs H Q E h => ?_) (fun cdv A outer s H vs Q E hr h => ?_)
  · obtain ⟨F, a, h, b, k, x, rfl, _⟩ := h
    rfl
  · obtain ⟨F, a, h, b, k, x, rfl, fh, A, o, k0, k5, x0, x1, ne, fr, q⟩ := h
    have hr2 : Room 2 _ := hr.mono (by decide)
    have eW : inV (.str (wStr b)) [.str "put", .str "add"] = true := by cases b <;> rfl
    refine ⟨_, pss_cons (ps_if (PW.pt (pw_or (pt_cmpR op_notIn_seq (pv 1) (pe_tup (pa_cons pe_str (pa_cons pe_str pa_nil))) (by rfl)) (pw_or1 (pt_not (pt_val (pe_call G1 hr2 (by rfl) g1 kp1 b1 .nil pass0 (pa_cons (pe_lst (pa_cons (pv 2) (pa_cons (pv 3) pa_nil))) pa_nil))))))) (pss_one ps_never) pss_nil)
      (pss_one (ps_ret (pe_meth (pv 0) T.cl m2 G2 hr b2 .nil pass0 (pa_cons (pe_tup (pa_cons (pv 1) (pa_cons (pv 2) (pa_cons (pv 3) pa_nil)))) pa_nil)))), ?_⟩
    refine ⟨_, rfl, by show 2 ≤ sizeLine; decide, fun p np => ⟨p, _, rfl, .inr (SqT.of upd_same), by cases b <;> rfl, rfl, ?_⟩⟩
    rw [if_pos rfl, eW]
    refine ⟨false, rfl, iteF ?_⟩
    have X1 := (Ext.refl (M := M0) fh).tmp (o := .tup [.str "put", .str "add"]) np
    refine ⟨_, rfl, _, rfl, by show 2 ≤ sizeLine; decide, fun l nl => ⟨l, k, x, rfl, upd_same, k0, k5, x0, x1, true, rfl, iteF ?_⟩⟩
    have X2 := X1.tmp (o := .lst [.int k, .int x]) nl
    have A2 := A.step0 X2
    obtain ⟨dx2, ob2⟩ := A2.ob
    refine ⟨_, rfl, a.p, dx2, _, rfl, ob2, lk_next _ _ _ _, _, rfl, _, rfl, _, rfl, by show 3 ≤ sizeLine; decide, fun t nt => ?_⟩
    have X3 := X2.lay (o := .tup [.str (wStr b), .int k, .int x]) nt
    have kw : kWhat.is (upd F t (.tup [.str (wStr b), .int k, .int x])) (.ref t) (.chg b k x) := ⟨t, rfl, upd_same⟩
    exact ⟨_, a, h, .ref t, .chg b k x, rfl, X3.fh, A.step0 X3, o, kw, ne, fr, fun F4 H4 a' h' u X4 A4 e1 e2 e3 ku mt => q F4 H4 a' h' u (X3.up.trans X4) A4 e1 e2 e3 ku mt⟩
end
end Rw
namespace Rw
open PySem L2
open GxR (TabB TabG Tabbed)
theorem HP.hm {Pc : Addr} {a : HA} : ∀ b, HM a b → HP Pc a b := fun _ z => .inr z
theorem HP.pc {Pc : Addr} {a : HA} : ∀ b, b = Pc → HP Pc a b := fun _ z => .inl z
theorem HouseAt.frz {K : PySem.W.Frag} {C : Addr} {F H : Hp} {a : HA} {h : HD} {D : Addr} {xs : List V} (A : HouseAt K C F H a h) (fD : F D = none) (hD : H D = some (.lst xs)) : HouseAt K C (upd F D (.lst xs)) H a h := by
  have sm : Same F (upd F D (.lst xs)) := same_upd fD
  obtain ⟨dx, ob⟩ := A.ob
  obtain ⟨kvs, hk, dv⟩ := A.kept
  have he := A.ends
  have n1 : a.p ≠ D := fun e => by rw [e, hD] at ob; cases ob
  have n2 : a.ka ≠ D := fun e => by rw [e, hD] at hk; cases hk
  have n3 : a.ea ≠ D := fun e => by rw [e, hD] at he; cases he
  exact ⟨⟨dx, ob⟩, by rw [upd_ne n1]; exact A.fp, (kL kRow).mono sm A.rows, ⟨kvs, hk, dv.mono fun _ _ z => kDeed.mono sm z⟩, by rw [upd_ne n2]; exact A.fk, he, by rw [upd_ne n3]; exact A.fe, (kL kRow).mono sm A.gone, (kL kInt).mono sm A.base, same_seqT sm A.mark⟩
structure TxE (mg : Str → Option Value) : Prop where
  enum : mg "enumerate" = none
section
variable {P : Program} {w : World} {K : PySem.W.Frag} {mg : Str → Option Value} {base : Heap} {C Pc : Addr}
set_option maxHeartbeats 2000000 in
theorem ok_House_take {f : Addr} {fd : FuncData} (F0 : Fun K "take" "House.take" s_House_take f fd) (T : TxC K mg C) (TE : TxE mg) (CD : Cal P w K mg base 7 "is_deed" ["deed"] spIsDeed) (CO : Cal P w K mg base 4 "in_order" ["deeds"] spInOrder) (CI : Cal P w K mg base 2 "is_in" ["rows", "house", "number"] (spIsIn Pc)) (CN : Cal P w K mg base 1 "name_of" ["deed"] spNameOf) (CM : CalM P w K mg base C 5 "_meet" ["self", "new"] (spMeet K C)) :
    FnOk P w K mg base CX0 8 f fd ["self", "deeds"] (spTake K C Pc) := by
  obtain ⟨f1, fd1, G1, g1, kp1, b1⟩ := CD
  obtain ⟨f2, fd2, G2, g2, kp2, b2⟩ := CO
  obtain ⟨f3, fd3, G3, g3, kp3, b3⟩ := CI
  obtain ⟨f4, fd4, G4, g4, kp4, b4⟩ := CN
  obtain ⟨f5, fd5, G5, m5, b5⟩ := CM
  refine F0.ok sc_House_take (fun vs H Q E h => ?_) (fun cdv A outer s H vs Q E hr h => ?_)
  · obtain ⟨F, a, h, v, ds, rfl, _⟩ := h
    rfl
  · obtain ⟨F, a, h, v, ds, rfl, fh, A, o, hv, ok, uq, few, tab, fP, q⟩ := h
    have hr1 : Room 1 _ := hr.mono (by decide)
    have hr2 : Room 2 _ := hr.mono (by decide)
    have hr4 : Room 4 _ := hr.mono (by decide)
    have hr5 : Room 5 _ := hr.mono (by decide)
    refine ⟨_, pss_cons (ps_for PassesOwn.never rfl (pi_enum (by rfl) TE.enum (pa_cons (pv 1) pa_nil))
          (pg_tup rfl (pgs_cons (pg_name (i := 2) sc_House_take.nd rfl (.inl rfl)) (pgs_cons (pg_name (i := 3) sc_House_take.nd rfl (.inl rfl)) pgs_nil)))
        (pss_one (ps_if (PW.pt (pw_or (pt_not (pt_val (pe_call G1 hr (by rfl) g1 kp1 b1 .nil pass0 (pa_cons (pv 3) pa_nil)))) (pw_or1 (pt_cmpR op_ge (pe_ix ix_tup (pv 3) pe_int (fun _ _ => rfl)) (pe_fld (pv 0) rfl) (nomark _))))) (pss_one ps_never) pss_nil)))
      (pss_cons (ps_setLc (i := 4) (own := [("deed", 3)]) (g := gName 3) (tt := tNot (tB (tCall (spIsIn Pc) [] E0 (tCons (tFld K (tVar 0) "_rows") (tCons (tOp (rIxT K) (tVar 3) (tC (.int 0))) (tCons (tOp (rIxT K) (tVar 3) (tC (.int 1))) tNil)))))) (te := tVar 3) (by rfl) sc_House_take.nd rfl rfl (sw_true rfl rfl rfl (by decide +kernel)) (pi_list (pe_call G2 hr4 (by rfl) g2 kp2 b2 .nil pass0 (pa_cons (pv 1) pa_nil)))
        (blkOk_by (own := [("deed", 3)]) (N := ["self", "deeds", "at", "deed", "new"]) (sc := defScope s_House_take) (by decide +kernel)) (fun _ _ _ _ _ => pg_name (i := 3) sc_House_take.nd rfl (.inl rfl)) (fun _ _ _ _ _ => pts_one (pt_not (pt_val (pe_call G3 hr2 (by rfl) g3 kp3 b3 .nil pass0 (pa_cons (pe_fld (pv 0) rfl) (pa_cons (pe_ix ix_tup (pv 3) pe_int (fun _ _ => rfl)) (pa_cons (pe_ix ix_tup (pv 3) pe_int (fun _ _ => rfl)) pa_nil)))))))
        (fun _ _ _ _ _ => pv 3))
      (pss_cons (ps_expr (pe_meth (pv 0) T.cl m5 G5 hr5 b5 .nil pass0 (pa_cons (pv 4) pa_nil)))
      (pss_one (ps_ret (pe_lc (own := [("deed", 3)]) (g := gName 3) (tt := tYes) (te := tCall spNameOf [] E0 (tCons (tVar 3) tNil)) (by rfl) sc_House_take.nd (pi_list (pv 4))
        (blkOk_by (own := [("deed", 3)]) (N := ["self", "deeds", "at", "deed", "new"]) (sc := defScope s_House_take) (by decide +kernel)) (fun _ _ _ _ _ => pg_name (i := 3) sc_House_take.nd rfl (.inl rfl)) (fun _ _ _ _ _ => pts_nil)
        (fun _ _ _ _ _ => pe_call G4 hr1 (by rfl) g4 kp4 b4 .nil pass0 (pa_cons (pv 3) pa_nil))))))), ?_⟩
    obtain ⟨al, xl, rfl, hal, hpl⟩ := id hv
    -- for at, deed in enumerate(deeds)
    refine ⟨_, rfl, al, _, rfl, SqL.of (fh _ _ hal), for_it (walk_enum (K := K) (a := al) (xs := xl)) (fun i σ H' => ∃ F' x y, σ = [some (.ref a.p), some (.ref al), x, y, none] ∧ Ext M0 F H F' H')
      ⟨F, none, none, rfl, Ext.refl fh⟩ (fun _ _ _ _ ⟨_, _, _, _, X⟩ => SqL.of (X.fh _ _ (X.ff _ _ hal))) ?_ ?_⟩
    · rintro i x σ H1 H2 hi ⟨F1, x0, y0, rfl, X1⟩ ⟨U, i', dv, rfl, nU, rfl, ei, er⟩
      obtain ⟨d, hd1, hd2⟩ := pr_get hpl er
      refine ⟨U, _, rfl, SqT.of upd_same, rfl, i', [dv], rfl, dv, [], rfl, rfl, ?_⟩
      have X2 := X1.tmp (o := .tup [i', dv]) nU
      have dm := List.mem_of_getElem? hd1
      refine ⟨_, rfl, F1, dv, d, rfl, X2.fh, kDeed.mono X1.ff hd2, (ok d dm).1, fun F' H' X3 => ⟨true, rfl, ?_⟩⟩
      have X4 := X2.trans X3
      have A4 := A.step0 X4
      obtain ⟨dx4, ob4⟩ := A4.ob
      obtain ⟨ad, ud, rfl, had, _⟩ := id hd2
      refine iteF ⟨_, rfl, ad, _, 0, _, rfl, rfl, SqT.of (X4.fh _ _ (X4.ff _ _ had)), rfl, _, rfl, a.p, C, dx4, _, _, rfl, ob4, T.cl, T.nMany, lk_many _ _ _ _, _, _, rfl, rfl, _, rfl, ?_⟩
      have lt := (ok d dm).2
      rw [decide_eq_false (by omega)]
      exact iteF ⟨F', _, _, rfl, X4⟩
    · rintro σ H1 ⟨F1, x0, y0, rfl, X1⟩
      -- new
      refine ⟨_, rfl, F1, .ref al, ds, rfl, X1.fh, (kL kDeed).mono X1.ff hv, uq, by omega, fun F2 H2 l xs line X2 nl fl hl hp lo => ?_⟩
      have X3 := X1.trans (X2.frz nl fl hl)
      have S3 := (GS.start fh tab fP).step X3
      have hl3 : upd F2 l (.lst xs) l = some (.lst xs) := upd_same
      have hp3 := pr_mono (fun _ _ z => kDeed.mono (same_upd (o := .lst xs) fl) z) hp
      have A3 := A.step0 X3
      revert S3 hl3 hp3 A3
      generalize upd F2 l (.lst xs) = F3
      intro S3 hl3 hp3 A3
      have ll := lo.len
      refine ⟨l, rfl, ⟨_, SqL.of (S3.same _ _ hl3)⟩, fun D nD => ?_⟩
      have fD := S3.same.free nD
      have D0 := S3.ext.free nD
      refine it_by (walk_list (K := K) (a := l) (xs := xs)) (fun i H' => ∃ acc, GS Pc F H F3 H' ∧ HouseAt K C F3 H' a h ∧ H' D = some (.lst acc) ∧ Paired (kDeed.is F3) acc (newOf (line.take i) h.rows))
        ⟨[], S3.tmp nD, A3.step0 ((Ext.refl S3.same).tmp nD), upd_same, .nil⟩ (fun i H' _ ⟨_, S, _⟩ => SqL.of (S.same _ _ hl3)) ?_ ?_
      · rintro j x _ H4 hj ⟨acc, S4, A4, hD, hac⟩ ⟨rfl, hx⟩
        obtain ⟨e, he, hev⟩ := pr_get hp3 hx
        obtain ⟨ad, ud, rfl, had, _⟩ := id hev
        have eT : newOf (line.take (j + 1)) h.rows = newOf (line.take j) h.rows ++ [e].filter fun d => !memB h.rows (name d) := by
          unfold newOf
          rw [List.take_add_one, he, ← List.filter_append]; rfl
        have lac : acc.length ≤ 400 := by
          rw [pr_len hac]
          have := List.length_filter_le (fun d => !memB h.rows (name d)) (line.take j)
          have := List.length_take_le' j line
          unfold newOf
          omega
        have h4 := S4.same _ _ had
        obtain ⟨dx4, ob4⟩ := A4.ob
        refine ⟨rfl, _, rfl, a.p, C, dx4, _, _, rfl, ob4, T.cl, T.nRows, lk_rows _ _ _ _, _, rfl, ad, _, 0, _, rfl, rfl, SqT.of h4, rfl, _, rfl, ad, _, 1, _, rfl, rfl, SqT.of h4, rfl, F3, .ref a.ra, h.rows, e.h, e.n, rfl, S4.same, A4.rows, S4.tab, S4.fP, fun b H5 eb X5 t5 => ?_⟩
        have S5 := S4.grow X5 t5
        have A5 := A4.grow S4.tab X5
        have hD5 := X5.hh _ _ hD (S4.ne hD)
        have ebv : b = memB h.rows (name e) := by
          cases b with
          | true => exact (memB_iff.mpr (eb.mp rfl)).symm
          | false =>
            cases z : memB h.rows (name e) with
            | false => rfl
            | true => exact absurd (eb.mpr (memB_iff.mp z)) (by simp)
        have neD : ∀ ys, HouseAt K C F3 (upd H5 D (.lst ys)) a h := fun ys => A5.step ((Ext.refl (M := (· = D)) S5.same).put (.inr rfl) fD) (fun z => by
          obtain ⟨dz, oz⟩ := A5.ob
          rw [z, hD5] at oz; cases oz) (fun z => by
          obtain ⟨kvs, hz, _⟩ := A5.kept
          rw [z, hD5] at hz; cases hz) (fun z => by
          have hz := A5.ends
          rw [z, hD5] at hz; cases hz)
        refine ⟨b, rfl, ?_⟩
        cases b with
        | false =>
          refine ⟨_, rfl, acc, hD5, by rw [sizeLine_eq]; omega, acc ++ [.ref ad], S5.put D0 fD hD5, neD _, upd_same, ?_⟩
          rw [eT, List.filter_cons_of_pos (by show (!memB h.rows (name e)) = true; rw [← ebv]; rfl)]
          exact pr_snoc hac hev
        | true =>
          refine ⟨acc, S5, A5, hD5, ?_⟩
          rw [eT, List.filter_cons_of_neg (by show ¬ (!memB h.rows (name e)) = true; rw [← ebv]; simp), List.filter_nil, List.append_nil]
          exact hac
      · rintro H4 ⟨acc, S4, A4, hD, hac⟩
        rw [pr_len hp3, List.take_length] at hac
        have S5 := S4.frz D0 fD hD
        have A5 := A4.frz fD hD
        have kn : (kL kDeed).is (upd F3 D (.lst acc)) (.ref D) (newOf line h.rows) := kL_new fD hac
        have hF3 : Same F3 (upd F3 D (.lst acc)) := same_upd fD
        clear hac hp3 hl3 hp
        revert S5 A5 kn hF3
        generalize upd F3 D (.lst acc) = F5
        intro S5 A5 kn hF3
        have fr := fresh_new o lo (fun d hd => (ok d hd).1) uq few
        obtain ⟨dx5, ob5⟩ := A5.ob
        refine ⟨_, rfl, a.p, dx5, _, rfl, ob5, lk_meet _ _ _ _, _, rfl, F5, a, h, .ref D, newOf line h.rows, rfl, S5.same, A5, o, kn, fr, fun F6 H6 a' h' X6 A6 e1 e2 e3 mt => ?_⟩
        have tab6 : TabG H6 Pc := by
          obtain ⟨pp, hp, ht⟩ := S5.tab
          refine ⟨pp, X6.hh _ _ hp fun z => ?_, ht⟩
          obtain ⟨n1, n2, n3⟩ := A5.np ⟨pp, hp, ht⟩
          rcases z with z | z | z
          · exact n1 z.symm
          · exact n2 z.symm
          · exact n3 z.symm
        have XX : Ext (HP Pc a) F H F6 H6 := (S5.ext.mono HP.pc).trans (X6.mono HP.hm)
        obtain ⟨nl', xs', enl, hnl', hpn⟩ := (kL kDeed).mono X6.ff kn
        obtain ⟨rfl⟩ : D = nl' := V.ref.inj enl
        refine ⟨_, rfl, D, rfl, ⟨xs', SqL.of (X6.fh _ _ hnl')⟩, fun D2 nD2 => ?_⟩
        refine it_by (walk_list (K := K) (a := D) (xs := xs')) (fun i H' => ∃ (F' : Hp) (acc : List V), Ext M0 F6 H6 F' H' ∧ H' D2 = some (.lst acc) ∧ F' D2 = none ∧ Paired (kPt.is F') acc (((newOf line h.rows).take i).map name))
          ⟨F6, [], (Ext.refl X6.fh).tmp nD2, upd_same, X6.fh.free nD2, .nil⟩ (fun i H' _ ⟨_, _, X, _⟩ => SqL.of (X.fh _ _ (X.ff _ _ hnl'))) ?_ ?_
        · rintro j x _ H7 hj ⟨F7, acc7, X7, hD7, fD7, hac7⟩ ⟨rfl, hx⟩
          obtain ⟨e, he, hev⟩ := pr_get hpn hx
          have la : acc7.length ≤ 400 := by
            rw [pr_len hac7, List.length_map]
            have := List.length_take_le' j (newOf line h.rows)
            have h2 := fr.few
            rw [List.length_append] at h2
            omega
          refine ⟨rfl, _, rfl, F7, x, e, rfl, X7.fh, kDeed.mono X7.ff hev, fun t nt => ?_⟩
          have Dt : D2 ≠ t := ne_of_none hD7 nt
          have fD2 : upd F7 t (.tup [.int e.h, .int e.n]) D2 = none := by rw [upd_ne Dt]; exact fD7
          have sm : Same F7 (upd F7 t (.tup [.int e.h, .int e.n])) := same_upd (X7.ffree nt)
          refine ⟨acc7, by rw [upd_ne Dt]; exact hD7, by rw [sizeLine_eq]; omega, upd F7 t (.tup [.int e.h, .int e.n]), acc7 ++ [.ref t], (X7.lay nt).put (.inl nD2) fD2, upd_same, fD2, ?_⟩
          rw [List.take_add_one, he, List.map_append]
          exact pr_snoc (pr_mono (fun _ _ z => kPt.mono sm z) hac7) ⟨t, rfl, upd_same⟩
        · rintro H7 ⟨F7, acc7, X7, hD7, fD7, hac7⟩
          rw [pr_len hpn, List.take_length] at hac7
          obtain ⟨pp, hpp, htt⟩ := tab6
          exact q F7 H7 a' h' line D2 acc7 lo (XX.trans X7.up) ⟨pp, X7.same _ _ hpp, htt⟩ (A6.step0 X7) e1 e2 e3 mt fr (XX.free nD2) fD7 hD7 hac7
end
end Rw
namespace Rw
open PySem L2
open GxR (TabB TabG Tabbed)
structure Ini (C : Addr) (F H F1 H1 : Hp) (x dx : Addr) (fs : List (Str × V)) : Prop where
  ext : Ext (· = x) F H F1 H1
  fx : F1 x = none
  ob : H1 x = some (.ins C dx fs)
theorem Ini.set {C : Addr} {F H F1 H1 : Hp} {x dx : Addr} {fs gs : List (Str × V)} {f : Str} {v : V} (I : Ini C F H F1 H1 x dx fs) (e : putF f v fs = gs) : Ini C F H F1 (upd H1 x (.ins C dx (putF f v fs))) x dx gs :=
  ⟨I.ext.put (.inr rfl) I.fx, I.fx, by rw [e]; exact upd_same⟩
theorem Ini.step {C : Addr} {F H F1 H1 F2 H2 : Hp} {x dx : Addr} {fs : List (Str × V)} (I : Ini C F H F1 H1 x dx fs) (X : Ext M0 F1 H1 F2 H2) : Ini C F H F2 H2 x dx fs :=
  ⟨I.ext.trans X.up, by rw [X.new x (by rw [I.ob]; simp)]; exact I.fx, X.same _ _ I.ob⟩
def ft1 (me : Int) : List (Str × V) := [("_me", .int me)]
def ft2 (me many : Int) : List (Str × V) := [("_me", .int me), ("_many", .int many)]
def ft3 (me many : Int) : List (Str × V) := [("_me", .int me), ("_many", .int many), ("_time", .int 0)]
def ft4 (me many : Int) (ra : Addr) : List (Str × V) := [("_me", .int me), ("_many", .int many), ("_time", .int 0), ("_rows", .ref ra)]
def ft5 (me many : Int) (ra ka : Addr) : List (Str × V) := [("_me", .int me), ("_many", .int many), ("_time", .int 0), ("_rows", .ref ra), ("_kept", .ref ka)]
def ft6 (me many : Int) (ra ka ea : Addr) : List (Str × V) := [("_me", .int me), ("_many", .int many), ("_time", .int 0), ("_rows", .ref ra), ("_kept", .ref ka), ("_ends", .ref ea)]
def ft7 (me many : Int) (ra ka ea ga : Addr) : List (Str × V) := [("_me", .int me), ("_many", .int many), ("_time", .int 0), ("_rows", .ref ra), ("_kept", .ref ka), ("_ends", .ref ea), ("_gone", .ref ga)]
def ft8 (me many : Int) (ra ka ea ga ba : Addr) : List (Str × V) := [("_me", .int me), ("_many", .int many), ("_time", .int 0), ("_rows", .ref ra), ("_kept", .ref ka), ("_ends", .ref ea), ("_gone", .ref ga), ("_base", .ref ba)]
section
variable (me many : Int) (p ra ka ea ga ba km : Addr)
theorem ftp1 : putF "_me" (V.int me) [] = ft1 me := by kernel_rfl
theorem ftp2 : putF "_many" (V.int many) (ft1 me) = ft2 me many := by kernel_rfl
theorem ftp3 : putF "_time" (V.int 0) (ft2 me many) = ft3 me many := by kernel_rfl
theorem ftp4 : putF "_rows" (V.ref ra) (ft3 me many) = ft4 me many ra := by kernel_rfl
theorem ftp5 : putF "_kept" (V.ref ka) (ft4 me many ra) = ft5 me many ra ka := by kernel_rfl
theorem ftp6 : putF "_ends" (V.ref ea) (ft5 me many ra ka) = ft6 me many ra ka ea := by kernel_rfl
theorem ftp7 : putF "_gone" (V.ref ga) (ft6 me many ra ka ea) = ft7 me many ra ka ea ga := by kernel_rfl
theorem ftp8 : putF "_base" (V.ref ba) (ft7 me many ra ka ea ga) = ft8 me many ra ka ea ga ba := by kernel_rfl
theorem ftp9 : putF "_mark" (V.ref km) (ft8 me many ra ka ea ga ba) = hflds ⟨p, ra, ka, ea, ga, ba, km⟩ me many 0 := by kernel_rfl
end
section
variable {P : Program} {w : World} {K : PySem.W.Frag} {mg : Str → Option Value} {base : Heap} {C Pc : Addr}
set_option maxHeartbeats 2000000 in
theorem ok_House___init__ {f km : Addr} {fd : FuncData} (F0 : Fun K "__init__" "House.__init__" s_House___init__ f fd) (T : TxC K mg C) (hkm : mg "NEVER_CUT" = some (.ref km)) (CM : Cal P w K mg base 2 "check_many" ["many"] spCheckMany) (CO : Cal P w K mg base 2 "check_one_of" ["which", "many"] spCheckOneOf) (CN : Cal P w K mg base 1 "no_worths" [] spNoWorths) :
    FnOk P w K mg base CX0 3 f fd ["self", "me", "many"] (spInit K C km) := by
  obtain ⟨f1, fd1, G1, g1, kp1, b1⟩ := CM
  obtain ⟨f2, fd2, G2, g2, kp2, b2⟩ := CO
  obtain ⟨f3, fd3, G3, g3, kp3, b3⟩ := CN
  refine F0.ok sc_House___init__ (fun vs H Q E h => ?_) (fun cdv A outer s H vs Q E hr h => ?_)
  · obtain ⟨F, x, dx, me, many, rfl, _⟩ := h
    rfl
  · obtain ⟨F, x, dx, me, many, rfl, fh, ob, fx, m2, m6, e0, em, hm, q⟩ := h
    have hr1 : Room 1 _ := hr.mono (by decide)
    refine ⟨_, pss_cons (ps_expr (pe_call G1 hr (by rfl) g1 kp1 b1 .nil pass0 (pa_cons (pv 2) pa_nil)))
      (pss_cons (ps_expr (pe_call G2 hr (by rfl) g2 kp2 b2 .nil pass0 (pa_cons (pv 1) (pa_cons (pv 2) pa_nil))))
      (pss_cons (ps_fld (pv 0) (pv 1) rfl)
      (pss_cons (ps_fld (pv 0) (pv 2) rfl)
      (pss_cons (ps_fld (pv 0) pe_int rfl)
      (pss_cons (ps_fld (pv 0) (pe_lst pa_nil) rfl)
      (pss_cons (ps_fld (pv 0) pe_dnewT rfl)
      (pss_cons (ps_fld (pv 0) pe_dnewK rfl)
      (pss_cons (ps_fld (pv 0) (pe_lst pa_nil) rfl)
      (pss_cons (ps_fld (pv 0) (pe_call0 G3 hr1 (by rfl) g3 kp3 b3 .nil pass0) rfl)
      (pss_one (ps_fld (pv 0) (pe_glob (v := .ref km) (by rfl) hkm rfl) rfl))))))))))), ?_⟩
    refine ⟨_, rfl, many, rfl, m2, m6, ?_⟩
    refine ⟨_, rfl, _, rfl, me, many, rfl, e0, em, ?_⟩
    have I0 : Ini C F H F H x dx [] := ⟨Ext.refl fh, fx, ob⟩
    refine ⟨_, rfl, _, rfl, x, C, dx, _, rfl, I0.ob, T.cl, T.nMe, by show 0 < 1000; decide, ?_⟩
    have I1 := I0.set (ftp1 me)
    revert I1
    generalize upd H x (.ins C dx (putF "_me" (V.int me) [])) = H1
    intro I1
    refine ⟨_, rfl, _, rfl, x, C, dx, _, rfl, I1.ob, T.cl, T.nMany, by show 1 < 1000; decide, ?_⟩
    have I2 := I1.set (ftp2 me many)
    revert I2
    generalize upd H1 x (.ins C dx (putF "_many" (V.int many) (ft1 me))) = H2
    intro I2
    refine ⟨_, rfl, x, C, dx, _, rfl, I2.ob, T.cl, T.nTime, by show 2 < 1000; decide, ?_⟩
    have I3 := I2.set (ftp3 me many)
    revert I3
    generalize upd H2 x (.ins C dx (putF "_time" (V.int 0) (ft2 me many))) = H3
    intro I3
    -- []
    refine ⟨by show 0 ≤ sizeLine; decide, fun ra nra => ⟨_, rfl, x, C, dx, ft3 me many, rfl, ?_⟩⟩
    have I3' := I3.step ((Ext.refl I3.ext.fh).lay (o := .lst []) nra)
    have rk : (kL kRow).is (upd F ra (.lst [])) (.ref ra) [] := kL_new (I3.ext.fh.free nra) .nil
    revert I3' rk
    generalize upd F ra (.lst []) = F3
    generalize upd H3 ra (.lst []) = H3'
    intro I3' rk
    refine ⟨I3'.ob, T.cl, T.nRows, by show 3 < 1000; decide, ?_⟩
    have I4 := I3'.set (ftp4 me many ra)
    revert I4
    generalize upd H3' x (.ins C dx (putF "_rows" (V.ref ra) (ft3 me many))) = H4
    intro I4
    -- {}
    refine fun ka nka => ⟨_, rfl, x, C, dx, ft4 me many ra, rfl, ?_⟩
    have nkx : ka ≠ x := (ne_of_none I4.ob nka).symm
    have I4' := I4.step ((Ext.refl I4.ext.fh).tmp (o := .dT []) nka)
    have hk : upd H4 ka (.dT []) ka = some (.dT []) := upd_same
    have fk : F3 ka = none := I4.ext.fh.free nka
    revert I4' hk
    generalize upd H4 ka (.dT []) = H4'
    intro I4' hk
    refine ⟨I4'.ob, T.cl, T.nKept, by show 4 < 1000; decide, ?_⟩
    have I5 := I4'.set (ftp5 me many ra ka)
    have hk5 : upd H4' x (.ins C dx (putF "_kept" (V.ref ka) (ft4 me many ra))) ka = some (.dT []) := by rw [upd_ne nkx]; exact hk
    revert I5 hk5
    generalize upd H4' x (.ins C dx (putF "_kept" (V.ref ka) (ft4 me many ra))) = H5
    intro I5 hk5
    refine fun ea nea => ⟨_, rfl, x, C, dx, ft5 me many ra ka, rfl, ?_⟩
    have nex : ea ≠ x := (ne_of_none I5.ob nea).symm
    have nke : ka ≠ ea := ne_of_none hk5 nea
    have I5' := I5.step ((Ext.refl I5.ext.fh).tmp (o := .dK []) nea)
    have he : upd H5 ea (.dK []) ea = some (.dK []) := upd_same
    have hk5' : upd H5 ea (.dK []) ka = some (.dT []) := by rw [upd_ne nke]; exact hk5
    have fe : F3 ea = none := I5.ext.fh.free nea
    revert I5' he hk5'
    generalize upd H5 ea (.dK []) = H5'
    intro I5' he hk5'
    refine ⟨I5'.ob, T.cl, T.nEnds, by show 5 < 1000; decide, ?_⟩
    have I6 := I5'.set (ftp6 me many ra ka ea)
    have hk6 : upd H5' x (.ins C dx (putF "_ends" (V.ref ea) (ft5 me many ra ka))) ka = some (.dT []) := by rw [upd_ne nkx]; exact hk5'
    have he6 : upd H5' x (.ins C dx (putF "_ends" (V.ref ea) (ft5 me many ra ka))) ea = some (.dK []) := by rw [upd_ne nex]; exact he
    revert I6 hk6 he6
    generalize upd H5' x (.ins C dx (putF "_ends" (V.ref ea) (ft5 me many ra ka))) = H6
    intro I6 hk6 he6
    -- []
    refine ⟨by show 0 ≤ sizeLine; decide, fun ga nga => ⟨_, rfl, x, C, dx, ft6 me many ra ka ea, rfl, ?_⟩⟩
    have XG : Ext M0 F3 H6 (upd F3 ga (.lst [])) (upd H6 ga (.lst [])) := (Ext.refl I6.ext.fh).lay nga
    have gk : (kL kRow).is (upd F3 ga (.lst [])) (.ref ga) [] := kL_new (I6.ext.fh.free nga) .nil
    revert XG gk
    generalize upd F3 ga (.lst []) = F6
    generalize upd H6 ga (.lst []) = H6'
    intro XG gk
    have I6' := I6.step XG
    refine ⟨I6'.ob, T.cl, T.nGone, by show 6 < 1000; decide, ?_⟩
    have I7 := I6'.set (ftp7 me many ra ka ea ga)
    have hk7 : upd H6' x (.ins C dx (putF "_gone" (V.ref ga) (ft6 me many ra ka ea))) ka = some (.dT []) := by rw [upd_ne nkx]; exact XG.same _ _ hk6
    have he7 : upd H6' x (.ins C dx (putF "_gone" (V.ref ga) (ft6 me many ra ka ea))) ea = some (.dK []) := by rw [upd_ne nex]; exact XG.same _ _ he6
    have fk6 : F6 ka = none := by rw [XG.new ka (by rw [hk6]; simp)]; exact fk
    have fe6 : F6 ea = none := by rw [XG.new ea (by rw [he6]; simp)]; exact fe
    have rk6 := (kL kRow).mono XG.ff rk
    revert I7 hk7 he7
    generalize upd H6' x (.ins C dx (putF "_gone" (V.ref ga) (ft6 me many ra ka ea))) = H7
    intro I7 hk7 he7
    -- no_worths()
    refine ⟨rfl, fun H8 ba XB nba hba => ⟨_, rfl, x, C, dx, ft7 me many ra ka ea ga, rfl, ?_⟩⟩
    have X8 := (XB F6 I7.ext.fh).frz nba (I7.ext.fh.free nba) hba
    have bk : (kL kInt).is (upd F6 ba (.lst (zeros.map V.int))) (.ref ba) zeros := ⟨ba, _, rfl, upd_same, pr_ints zeros⟩
    revert X8 bk
    generalize upd F6 ba (.lst (zeros.map V.int)) = F8
    intro X8 bk
    have I7' := I7.step X8
    refine ⟨I7'.ob, T.cl, T.nBase, by show 7 < 1000; decide, ?_⟩
    have I8 := I7'.set (ftp8 me many ra ka ea ga ba)
    have hk8 : upd H8 x (.ins C dx (putF "_base" (V.ref ba) (ft7 me many ra ka ea ga))) ka = some (.dT []) := by rw [upd_ne nkx]; exact X8.same _ _ hk7
    have he8 : upd H8 x (.ins C dx (putF "_base" (V.ref ba) (ft7 me many ra ka ea ga))) ea = some (.dK []) := by rw [upd_ne nex]; exact X8.same _ _ he7
    have fk8 : F8 ka = none := by rw [X8.new ka (by rw [hk7]; simp)]; exact fk6
    have fe8 : F8 ea = none := by rw [X8.new ea (by rw [he7]; simp)]; exact fe6
    have rk8 := (kL kRow).mono X8.ff rk6
    have gk8 := (kL kRow).mono X8.ff gk
    revert I8 hk8 he8
    generalize upd H8 x (.ins C dx (putF "_base" (V.ref ba) (ft7 me many ra ka ea ga))) = H9
    intro I8 hk8 he8
    refine ⟨_, rfl, x, C, dx, _, rfl, I8.ob, T.cl, T.nMark, by show 8 < 1000; decide, ?_⟩
    have I9 := I8.set (ftp9 me many x ra ka ea ga ba km)
    have hk9 : upd H9 x (.ins C dx (putF "_mark" (V.ref km) (ft8 me many ra ka ea ga ba))) ka = some (.dT []) := by rw [upd_ne nkx]; exact hk8
    have he9 : upd H9 x (.ins C dx (putF "_mark" (V.ref km) (ft8 me many ra ka ea ga ba))) ea = some (.dK []) := by rw [upd_ne nex]; exact he8
    exact q F8 _ ⟨x, ra, ka, ea, ga, ba, km⟩ I9.ext rfl ⟨⟨dx, I9.ob⟩, I9.fx, rk8, ⟨[], hk9, .nil⟩, fk8, he9, fe8, gk8, bk, hm _⟩
end
end Rw
namespace Rw
open PySem PySem.Spec PyProof.Rows L2
/-! ### tuples of three ints compared -/
abbrev Tri := Int × Int × Int
def ltT (a b : Tri) : Prop := a.1 < b.1 ∨ (a.1 = b.1 ∧ (a.2.1 < b.2.1 ∨ (a.2.1 = b.2.1 ∧ a.2.2 < b.2.2)))
instance (a b : Tri) : Decidable (ltT a b) := by unfold ltT; infer_instance
def rTri (f : Tri → Tri → Bool) : R2 := fun x y H Q => ∃ (a b : Addr) (p q : Tri), x = .ref a ∧ y = .ref b ∧ H a = some (.tup [.int p.1, .int p.2.1, .int p.2.2]) ∧ H b = some (.tup [.int q.1, .int q.2.1, .int q.2.2]) ∧ Q (.bl (f p q)) H
section
variable {X : Cx}
theorem tri_op {op : CmpOp} {f : Tri → Tri → Bool} {ri : Int → Int → Bool} {z : Bool} (hu : X.A.units < cLine)
    (tup : ∀ {s : Shared} {l b : Addr} {items items2 : Array Value} {e r : Nat → Bool}, s.heap.IsTuple l items → s.heap.IsTuple b items2 → items.size = 3 → items2.size = 3 →
      (∀ j (h1 : j < items.size) (h2 : j < items2.size), SeqAt.EqAt X.A.in1 s items[j] items2[j] (e j)) → (∀ j (h1 : j < items.size) (h2 : j < items2.size), e j = false → Ob.RcOp op X.A.in1 s items[j] items2[j] (r j)) →
      Ob.RcOp op X.A s (.ref l) (.ref b) (Ob.lexAt e r z 0 3))
    (one : ∀ {s : Shared} (a b : Int) (t u : Tok), Ob.RcOp op X.A.in1 s (.int a t) (.int b u) (ri a b))
    (fin : ∀ p q : Tri, Ob.lexAt (fun j => decide ([p.1, p.2.1, p.2.2].getD j 0 = [q.1, q.2.1, q.2.2].getD j 0)) (fun j => ri ([p.1, p.2.1, p.2.2].getD j 0) ([q.1, q.2.1, q.2.2].getD j 0)) z 0 3 = f p q)
    (cmp : ∀ {a b : Addr} {Q : Value → Shared → Prop} {E : Value → Shared → Prop} {s : Shared}, wpAny (model X.prog X.w) X.A (richCompare op (.ref a) (.ref b)) Q E s → wpAny (model X.prog X.w) X.A (compareOp op (.ref a) (.ref b)) Q E s) : OpR X (compareOp op) (rTri f) := by
  intro pins s σ H x y v u Q I rx ry h
  obtain ⟨a, b, p, q, rfl, rfl, ha, hb, hq⟩ := h
  cases rx
  cases ry
  obtain ⟨its, r1, p1, _⟩ := I.tuple (SqT.of ha)
  obtain ⟨its2, r2, p2, _⟩ := I.tuple (SqT.of hb)
  have i1 : IntsAre its [p.1, p.2.1, p.2.2] := Vals.ints r1
  have i2 : IntsAre its2 [q.1, q.2.1, q.2.2] := Vals.ints r2
  have e1 : its.toArray.size = 3 := by rw [List.size_toArray]; exact i1.length
  have e2 : its2.toArray.size = 3 := by rw [List.size_toArray]; exact i2.length
  have at1 : ∀ j (h1 : j < its.toArray.size), ∃ t, its.toArray[j] = .int ([p.1, p.2.1, p.2.2].getD j 0) t := fun j h1 => PyProof.Rows.IntsAre.int_at i1 _ _ (by simp at h1; simp [h1])
  have at2 : ∀ j (h1 : j < its2.toArray.size), ∃ t, its2.toArray[j] = .int ([q.1, q.2.1, q.2.2].getD j 0) t := fun j h1 => PyProof.Rows.IntsAre.int_at i2 _ _ (by simp at h1; simp [h1])
  have R := tup (s := s) (e := fun j => decide ([p.1, p.2.1, p.2.2].getD j 0 = [q.1, q.2.1, q.2.2].getD j 0)) (r := fun j => ri ([p.1, p.2.1, p.2.2].getD j 0) ([q.1, q.2.1, q.2.2].getD j 0)) p1 p2 e1 e2 (fun j h1 h2 => by
    obtain ⟨t, et⟩ := at1 j h1
    obtain ⟨t', et'⟩ := at2 j h2
    rw [et, et']
    have z : ([p.1, p.2.1, p.2.2].getD j 0 == [q.1, q.2.1, q.2.2].getD j 0) = decide ([p.1, p.2.1, p.2.2].getD j 0 = [q.1, q.2.1, q.2.2].getD j 0) := by
      by_cases c : [p.1, p.2.1, p.2.2].getD j 0 = [q.1, q.2.1, q.2.2].getD j 0
      · rw [decide_eq_true c]; exact beq_iff_eq.mpr c
      · rw [decide_eq_false c]; exact beq_eq_false_iff_ne.mpr c
    rw [← z]
    exact SeqAt.EqAt.int_int _ _ _ _) (fun j h1 h2 _ => by
    obtain ⟨t, et⟩ := at1 j h1
    obtain ⟨t', et'⟩ := at2 j h2
    rw [et, et']
    exact one _ _ _ _)
  rw [fin p q] at R
  have z := cmp (R X.prog X.w X.xe (EP X pins σ Q) ⟨.bl (f p q), H, I, rfl, hq⟩)
  exact z
theorem lex3 (e r : Nat → Bool) (z : Bool) : Ob.lexAt e r z 0 3 = if e 0 = true then (if e 1 = true then (if e 2 = true then z else r 2) else r 1) else r 0 := rfl
theorem op_lt3 (hu : X.A.units < cLine) : OpR X (compareOp .Lt) (rTri fun p q => decide (ltT p q)) :=
  tri_op (ri := fun a b => decide (a < b)) (z := false) hu (fun h1 h2 s1 s2 he hr => by have := Ob.RcOp.tuples_lt h1 h2 hu he hr; rw [s1, s2] at this; exact this) (fun _ _ _ _ => Ob.RcOp.lt_int _ _ _ _)
    (fun p q => by
      obtain ⟨a, b, c⟩ := p
      obtain ⟨a', b', c'⟩ := q
      rw [lex3]
      simp only [List.getD_cons_zero, List.getD_cons_succ, decide_eq_true_eq]
      unfold ltT
      by_cases h1 : a = a' <;> by_cases h2 : b = b' <;> by_cases h3 : c = c' <;> simp [h1, h2, h3]) fun h => h
theorem op_gt3 (hu : X.A.units < cLine) : OpR X (compareOp .Gt) (rTri fun p q => decide (ltT q p)) :=
  tri_op (ri := fun a b => decide (b < a)) (z := false) hu (fun h1 h2 s1 s2 he hr => by have := Ob.RcOp.tuples_gt h1 h2 hu he hr; rw [s1, s2] at this; exact this) (fun _ _ _ _ => Ob.RcOp.gt_int _ _ _ _)
    (fun p q => by
      obtain ⟨a, b, c⟩ := p
      obtain ⟨a', b', c'⟩ := q
      rw [lex3]
      simp only [List.getD_cons_zero, List.getD_cons_succ, decide_eq_true_eq]
      unfold ltT
      simp only
      split
      · split
        · split
          · exact (decide_eq_false (by omega)).symm
          · exact decide_eq_decide.mpr (by omega)
        · exact decide_eq_decide.mpr (by omega)
      · exact decide_eq_decide.mpr (by omega)) fun h => h
theorem op_le3 (hu : X.A.units < cLine) : OpR X (compareOp .LtE) (rTri fun p q => !decide (ltT q p)) :=
  tri_op (ri := fun a b => decide (a ≤ b)) (z := true) hu (fun h1 h2 s1 s2 he hr => by have := Ob.RcOp.tuples_le h1 h2 hu he hr; rw [s1, s2] at this; exact this) (fun _ _ _ _ => Ob.RcOp.le_int _ _ _ _)
    (fun p q => by
      obtain ⟨a, b, c⟩ := p
      obtain ⟨a', b', c'⟩ := q
      rw [lex3]
      simp only [List.getD_cons_zero, List.getD_cons_succ, decide_eq_true_eq, ← decide_not]
      unfold ltT
      simp only
      split
      · split
        · split
          · exact (decide_eq_true (by omega)).symm
          · exact decide_eq_decide.mpr (by omega)
        · exact decide_eq_decide.mpr (by omega)
      · exact decide_eq_decide.mpr (by omega)) fun h => h
theorem op_ge3 (hu : X.A.units < cLine) : OpR X (compareOp .GtE) (rTri fun p q => !decide (ltT p q)) :=
  tri_op (ri := fun a b => decide (b ≤ a)) (z := true) hu (fun h1 h2 s1 s2 he hr => by have := Ob.RcOp.tuples_ge h1 h2 hu he hr; rw [s1, s2] at this; exact this) (fun _ _ _ _ => Ob.RcOp.ge_int _ _ _ _)
    (fun p q => by
      obtain ⟨a, b, c⟩ := p
      obtain ⟨a', b', c'⟩ := q
      rw [lex3]
      simp only [List.getD_cons_zero, List.getD_cons_succ, decide_eq_true_eq, ← decide_not]
      unfold ltT
      simp only
      split
      · split
        · split
          · exact (decide_eq_true (by omega)).symm
          · exact decide_eq_decide.mpr (by omega)
        · exact decide_eq_decide.mpr (by omega)
      · exact decide_eq_decide.mpr (by omega)) fun h => h
end
end Rw
namespace PySem.W
open Lean Elab Tactic Meta PySem PySem.Calls PyProof.Rows PyProof.V PySem.Spec
section
variable {prog : Program} {w : World} {K : Type} [DecidableEq K] {knd : HeapKind prog w K} {A : Around} {E : Value → Shared → Prop} {s : Shared}
/-- two dicts, the second of them empty -/
theorem none_samePairs {nm : String} {a b : Addr} {ka : List (K × Addr × Value)} {Q : Bool → Shared → Prop} (ha : (a == sysModules) = false) (hb : (b == sysModules) = false)
    (da : s.heap.DictOfH knd a ka) (db : s.heap.DictOfH knd b []) (h : Q ka.isEmpty s) : wpAny (model prog w) A (Builtin.Dict.samePairs nm a b) Q E s := by
  obtain ⟨oa, es, ep, hoa, _, hda, la, _⟩ := da
  obtain ⟨ob, es', ep', hob, _, hdb, lb, _⟩ := db
  have na : es.size = ka.length := by rw [← Array.length_toList, la, List.length_map]
  have nb : es'.size = 0 := by rw [← Array.length_toList, lb]; rfl
  unfold Builtin.Dict.samePairs Builtin.Dict.showsAll
  rw [if_neg (show ¬ (a == sysModules) = true by rw [ha]; exact Bool.false_ne_true), if_neg (show ¬ (b == sysModules) = true by rw [hb]; exact Bool.false_ne_true)]
  refine wpAny_bind (wpAny_pure (wpAny_bind (wpAny_pure ?_)))
  refine wpAny_bind (wpAny_dictEntries hoa hda ?_)
  dsimp only
  refine wpAny_bind (wpAny_dictEntries hob hdb ?_)
  cases ka with
  | cons x ka =>
    rw [if_pos (by rw [na, nb]; simp)]
    exact wpAny_bind (wpAny_rule (wpAny_pure h))
  | nil =>
    have z : es.size = 0 := na
    rw [if_neg (by rw [z, nb]; simp)]
    refine wpAny_bind (wpAny_dictEpoch hoa hda ?_)
    refine wpAny_bind ?_
    rw [Std.Legacy.Range.forIn_eq_forIn_range']
    simp only [Std.Legacy.Range.size, Nat.sub_zero, Nat.add_sub_cancel, Nat.div_one]
    refine wpAny_forIn_list _ (fun rest q s' => s' = s ∧ q = (none, ()) ∧ rest = []) _ ?_ ?_ _ _ ⟨rfl, rfl, by rw [z]; rfl⟩
    · rintro x rest q s' ⟨_, _, bad⟩
      exact absurd bad (by simp)
    · rintro q s' ⟨rfl, rfl, _⟩
      exact wpAny_pure h
theorem none_ne {a b : Addr} {ka : List (K × Addr × Value)} {Q : Value → Shared → Prop} (ha : (a == sysModules) = false) (hb : (b == sysModules) = false)
    (da : s.heap.DictOfH knd a ka) (db : s.heap.DictOfH knd b []) (hu : A.units < cLine) (h : Q (.bool (!ka.isEmpty)) s) :
    wpAny (model prog w) A (compareOp .NotEq (.ref a) (.ref b)) Q E s := by
  refine wpAny_richCompare_same_room (op := .NotEq) da.typeIs db.typeIs PySem.F.slot_dict_ne (wpAny_call_entry PySem.F.slot_dict_ne da.typeIs PySem.F.entry_dict_ne ?_ (PySem.F.args_dict_ne_2 _ _)) hu
  show wpAny _ _ (Builtin.Dict.dictSlotArgs "__ne__" ⟨[.ref a, .ref b], []⟩ >>= _) _ _ s
  refine wpAny_bind ?_
  unfold Builtin.Dict.dictSlotArgs
  refine wpAny_bind (wpAny_notOrdered_dict da.typeIs ?_)
  show wpAny _ _ (pure (Value.ref a, Value.ref b)) _ _ s
  refine wpAny_pure ?_
  refine wpAny_bind (wpAny_isInstance (T := "dict") db.typeIs PySem.F.sub_dict_dict ?_)
  simp only [Bool.not_true, Bool.false_eq_true, if_false]
  refine wpAny_bind (wpAny_pure (wpAny_bind (wpAny_pure ?_)))
  refine wpAny_bind (none_samePairs ha hb da db ?_)
  refine wpAny_pure ⟨_, rfl, ?_, ?_⟩
  · exact fun x => nomatch x
  · simpa using h
end
end PySem.W
namespace Rw
open PySem L2
def rNeT0 : R2 := fun x y H Q => ∃ (a b : Addr) (kvs : List (List Key × V)), x = .ref a ∧ y = .ref b ∧ H a = some (.dT kvs) ∧ H b = some (.dT []) ∧ Q (.bl (!kvs.isEmpty)) H
section
variable {X : Cx}
theorem op_neT0 (hu : X.A.units < cLine) : OpR X (compareOp .NotEq) rNeT0 := by
  intro pins s σ H x y v u Q I rx ry h
  obtain ⟨a, b, kvs, rfl, rfl, ea, eb, q⟩ := h
  obtain rfl : v = Value.ref a := rx
  obtain rfl : u = Value.ref b := ry
  obtain ⟨_, sa, ka, ra, da⟩ := dt_of I.hok ea
  obtain ⟨_, sb, kb, rb, db⟩ := dt_of I.hok eb
  have lb : kb = [] := List.eq_nil_of_length_eq_zero (by rw [← Paired.length rb]; rfl)
  subst lb
  have e : kvs.isEmpty = ka.isEmpty := by
    have l := Paired.length ra
    cases kvs <;> cases ka <;> first | rfl | simp at l
  exact PySem.W.none_ne sa sb da db hu (fin_bl I q (by rw [e]))
end
end Rw
namespace Rw
open PySem L2
/-- a list beside [] -/
def rNeL0 (K : PySem.W.Frag) : R2 := fun x y H Q => ∃ (a b : Addr) (xs : List V), x = .ref a ∧ y = .ref b ∧ SqL K H a xs ∧ SqL K H b [] ∧ Q (.bl (!xs.isEmpty)) H
section
variable {X : Cx}
theorem op_neL0 (hu : X.A.units < cLine) : OpR X (compareOp .NotEq) (rNeL0 X.K) := by
  intro pins s σ H x y v u Q I rx ry h
  obtain ⟨a, b, xs, rfl, rfl, ea, eb, q⟩ := h
  obtain rfl : v = Value.ref a := rx
  obtain rfl : u = Value.ref b := ry
  obtain ⟨us, r1, p1, _⟩ := I.list ea
  obtain ⟨ws, r2, p2, _⟩ := I.list eb
  cases r2
  cases r1 with
  | nil => exact SeqAt.RcNeAt.lists (e := fun _ => true) p1.isList p2.isList rfl hu (fun j h1 h2 => absurd h1 (by simp)) X.prog X.w _ _ ⟨.bl _, H, I, rfl, q⟩
  | cons r rs => exact SeqAt.RcNeAt.lists_lengths p1.isList p2.isList (by simp) hu X.prog X.w _ _ ⟨.bl _, H, I, rfl, q⟩
end
end Rw
namespace Rw
open PySem L2
/-! ### the law's has -/
def spLawHas : Sp := fun vs H Q _ => ∃ (F : Hp) (v u : V) (rows : List Row) (p : Pt), vs = [v, u] ∧ Same F H ∧ (kT kRow).is F v rows ∧ kPt.is F u p ∧ rows.length ≤ 1000 ∧ ∀ H', Ext M0 F H F H' → Q (.bl (memB rows p)) H'
section
variable {P : Program} {w : World} {K : PySem.W.Frag} {mg : Str → Option Value} {base : Heap}
theorem ok_law_has {f : Addr} {fd : FuncData} (F0 : Fun K "_law_has" "_law_has" s_law_has f fd) : FnOk P w K mg base CX0 1 f fd ["_law_rows_here", "_law_name"] spLawHas := by
  refine F0.ok sc_law_has (fun vs H Q E h => ?_) (fun cdv A outer s H vs Q E hr h => ?_)
  · obtain ⟨F, v, u, rows, p, rfl, _⟩ := h
    rfl
  · obtain ⟨F, v, u, rows, p, rfl, fh, ⟨a, xs, rfl, ha, hp⟩, ⟨tu, rfl, htu⟩, l4, q⟩ := h
    have hu0 : (A.deeper (PyProof.Rows.envOfC "_law_has" (defScope s_law_has) s.heap.objs.size f cdv)).units < cLine := by have := hr.un; omega
    have lx := pr_len hp
    refine ⟨_, pss_one (ps_ret (pe_cmpR (op_neL0 hu0) (pe_lc (own := [("_law_row", 2)]) (g := gName 2)
        (tt := tAnd (tTest (tOp rEq (tOp (rIxT K) (tVar 2) (tC (.int 0))) (tOp (rIxT K) (tVar 1) (tC (.int 0))))) (tTest (tChain (rI0 fun i j => .bl (decide (i ≤ j))) (rI0 fun i j => .bl (decide (i ≤ j))) (tOp (rIxT K) (tVar 2) (tC (.int 1))) (tOp (rIxT K) (tVar 1) (tC (.int 1))) (tOp (rIxT K) (tVar 2) (tC (.int 2)))))) (te := tVar 2)
        (by rfl) sc_law_has.nd (pi_tup (pv 0)) (blkOk_by (own := [("_law_row", 2)]) (N := ["_law_rows_here", "_law_name", "_law_row"]) (sc := defScope s_law_has) (by decide +kernel))
        (fun _ _ _ _ _ => pg_name (i := 2) sc_law_has.nd rfl (.inl rfl)) (fun _ _ _ _ _ => pts_one (PW.pt (pw_and (pt_cmpR op_eq (pe_ix ix_tup (pv 2) pe_int (fun _ _ => rfl)) (pe_ix ix_tup (pv 1) pe_int (fun _ _ => rfl)) (by rfl))
          (pw_and1 (pt_chain op_le op_le (pe_ix ix_tup (pv 2) pe_int (fun _ _ => rfl)) (pe_ix ix_tup (pv 1) pe_int (fun _ _ => rfl)) (pe_ix ix_tup (pv 2) pe_int (fun _ _ => rfl)))))))
        (fun _ _ _ _ _ => pv 2)) (pe_lst pa_nil) (nomark _))), ?_⟩
    refine ⟨_, rfl, a, rfl, ⟨_, SqT.of (fh _ _ ha)⟩, fun D nD => ?_⟩
    have fD := fh.free nD
    refine it_by (walk_tup (K := K) (a := a) (xs := xs)) (fun i H' => ∃ (acc : List V), Ext M0 F H F H' ∧ H' D = some (.lst acc) ∧ acc.isEmpty = (!(rows.take i).any (inB p.1 p.2)) ∧ acc.length ≤ i)
      ⟨[], (Ext.refl fh).tmp nD, upd_same, rfl, Nat.le_refl _⟩ (fun i H' _ ⟨_, X, _⟩ => SqT.of (X.fh _ _ ha)) ?_ ?_
    · rintro j x _ H1 hj ⟨acc, X1, hD, hac, hl⟩ ⟨rfl, hx⟩
      obtain ⟨r, hr, t, rfl, ht⟩ := pr_get hp hx
      have eT : rows.take (j + 1) = rows.take j ++ [r] := by rw [List.take_add_one, hr]; rfl
      have no : inB p.1 p.2 r = false → ∃ (acc : List V), Ext M0 F H F H1 ∧ H1 D = some (.lst acc) ∧ acc.isEmpty = (!(rows.take (j + 1)).any (inB p.1 p.2)) ∧ acc.length ≤ j + 1 := fun z =>
        ⟨acc, X1, hD, by rw [eT, List.any_append, hac]; simp [z], by omega⟩
      refine ⟨rfl, _, rfl, t, _, 0, .int r.1, rfl, rfl, SqT.of (X1.fh _ _ ht), rfl, _, rfl, tu, _, 0, .int p.1, rfl, rfl, SqT.of (X1.fh _ _ htu), rfl, rfl, _, rfl, ?_⟩
      by_cases e1 : r.1 = p.1
      · rw [decide_eq_true (show V.int r.1 = V.int p.1 by rw [e1])]
        refine iteT ⟨_, rfl, t, _, 1, .int r.2.1, rfl, rfl, SqT.of (X1.fh _ _ ht), rfl, _, rfl, tu, _, 1, .int p.2, rfl, rfl, SqT.of (X1.fh _ _ htu), rfl, _, _, rfl, rfl, _, rfl, ite2 (fun c => ?_) (fun c => ?_)⟩
        · refine ⟨_, rfl, t, _, 2, .int r.2.2, rfl, rfl, SqT.of (X1.fh _ _ ht), rfl, _, _, rfl, rfl, _, rfl, ite2 (fun c2 => ?_) (fun c2 => ?_)⟩
          · have z : inB p.1 p.2 r = true := by
              unfold inB
              rw [decide_eq_true e1, decide_eq_true ⟨of_decide_eq_true c, of_decide_eq_true c2⟩]
              rfl
            refine ⟨_, rfl, acc, hD, by rw [sizeLine_eq]; omega, acc ++ [.ref t], X1.put (.inl nD) fD, upd_same, ?_, by simp; omega⟩
            rw [eT, List.any_append]
            simp [z]
          · refine no ?_
            unfold inB
            rw [decide_eq_false (show ¬ (r.2.1 ≤ p.2 ∧ p.2 ≤ r.2.2) from fun z => by exact c2 (decide_eq_true z.2)), Bool.and_false]
        · refine ⟨_, rfl, ?_⟩
          refine no ?_
          unfold inB
          rw [decide_eq_false (show ¬ (r.2.1 ≤ p.2 ∧ p.2 ≤ r.2.2) from fun z => by exact c (decide_eq_true z.1)), Bool.and_false]
      · rw [decide_eq_false (show ¬ V.int r.1 = V.int p.1 from fun z => e1 (V.int.inj z))]
        refine iteF (no ?_)
        unfold inB
        rw [decide_eq_false e1, Bool.false_and]
    · rintro H1 ⟨acc, X1, hD, hac, hl⟩
      rw [lx, List.take_length] at hac
      refine ⟨Nat.zero_le _, fun p2 np2 => ⟨D, p2, acc, rfl, rfl, SqL.of (by rw [upd_ne (ne_of_none hD np2)]; exact hD), SqL.of upd_same, ?_⟩⟩
      rw [hac, Bool.not_not]
      exact q _ (X1.tmp np2)
end
end Rw
namespace Rw
open PySem L2
/-! ### names told as rows -/
structure ToldOf (ps : List Pt) (out : List Row) : Prop where
  can : Canon out
  mem : ∀ p, mem out p ↔ p ∈ ps
  len : out.length ≤ ps.length
theorem ToldOf.nil : ToldOf [] [] := ⟨.nil, fun p => ⟨fun h => absurd h mem_nil, fun h => absurd h (by simp)⟩, Nat.le_refl _⟩
theorem ToldOf.behind {ps : List Pt} {out : List Row} {k : Pt} (t : ToldOf ps out) (h : ∀ p ∈ ps, lt2 p k) {r : Row} (hr : r ∈ out) : r.1 < k.1 ∨ (r.1 = k.1 ∧ r.2.2 < k.2) := by
  have m := h _ ((t.mem (r.1, r.2.2)).mp (t.can.last hr))
  unfold lt2 at m
  simp only at m
  omega
theorem ToldOf.grow {ps : List Pt} {init : List Row} {r : Row} {k : Pt} (t : ToldOf ps (init ++ [r])) (h : ∀ p ∈ ps, lt2 p k) (e1 : r.1 = k.1) (e2 : r.2.2 + 1 = k.2) : ToldOf (ps ++ [k]) (init ++ [(k.1, r.2.1, k.2)]) := by
  have hr : r ∈ init ++ [r] := by simp
  have o := t.can.ok r hr
  have pw := List.pairwise_append.mp t.can.ord
  have ci : Canon init := ⟨fun s hs => t.can.ok s (List.mem_append_left _ hs), pw.1⟩
  refine ⟨ci.snoc (by simp only; omega) fun s hs => ?_, fun p => ?_, by have := t.len; simp at this ⊢; omega⟩
  · have b := pw.2.2 s hs r (by simp)
    unfold before at b ⊢
    simp only at b ⊢
    omega
  · have m := t.mem p
    rw [mem_append] at m ⊢
    rw [List.mem_append, List.mem_singleton, ← m]
    have one : Rw.mem [(k.1, r.2.1, k.2)] p ↔ Rw.mem [r] p ∨ p = k := by
      unfold Rw.mem inRow
      simp only [List.mem_singleton, exists_eq_left]
      constructor
      · rintro ⟨a, b, c⟩
        by_cases z : p.2 = k.2
        · exact .inr (Prod.ext a.symm z)
        · exact .inl ⟨by omega, b, by omega⟩
      · rintro (⟨a, b, c⟩ | rfl)
        · exact ⟨by omega, b, by omega⟩
        · exact ⟨rfl, by omega, Int.le_refl _⟩
    rw [one, or_assoc]
theorem ToldOf.more {ps : List Pt} {out : List Row} {k : Pt} (t : ToldOf ps out) (h : ∀ p ∈ ps, lt2 p k) (hn : ∀ init r, out = init ++ [r] → ¬ (r.1 = k.1 ∧ r.2.2 + 1 = k.2)) : ToldOf (ps ++ [k]) (out ++ [(k.1, k.2, k.2)]) := by
  refine ⟨t.can.snoc (Int.le_refl _) fun s hs => ?_, fun p => ?_, by have := t.len; simp; omega⟩
  · have b := t.behind h hs
    unfold before
    simp only
    by_cases e : s.1 = k.1 ∧ s.2.2 + 1 = k.2
    · exfalso
      rcases List.eq_nil_or_concat out with z | ⟨init, r, z⟩
      · rw [z] at hs; simp at hs
      · rw [List.concat_eq_append] at z
        have nr := hn init r z
        rw [z] at hs
        rcases List.mem_append.mp hs with hs | hs
        · have c := t.can.ord
          rw [z] at c
          have q := (List.pairwise_append.mp c).2.2 s hs r (by simp)
          have br := t.behind h (r := r) (by rw [z]; simp)
          have o := t.can.ok r (by rw [z]; simp)
          unfold before at q
          omega
        · rw [List.mem_singleton.mp hs] at e
          exact nr e
    · omega
  · rw [mem_append, List.mem_append, List.mem_singleton, t.mem p]
    refine or_congr Iff.rfl ?_
    unfold Rw.mem inRow
    simp only [List.mem_singleton, exists_eq_left]
    constructor
    · rintro ⟨a, b, c⟩
      exact Prod.ext a.symm (by omega)
    · rintro rfl
      exact ⟨rfl, Int.le_refl _, Int.le_refl _⟩
theorem ixN_last (n : Nat) : ixN (n + 1) (-1) = some n := by
  unfold ixN
  rw [if_neg (by decide), if_pos (by omega)]
  congr 1
  omega
def spTold : Sp := fun vs H Q _ => ∃ (F : Hp) (v : V) (ps : List Pt), vs = [v] ∧ Same F H ∧ (kL kPt).is F v ps ∧ ps.Pairwise lt2 ∧ ps.length ≤ 1000000 ∧ RetL M0 F H kRow (ToldOf ps) Q
theorem pr_concat {α : Type} {R : V → α → Prop} {vs : List V} {xs : List α} {x : α} (h : Paired R vs (xs ++ [x])) : ∃ us u, vs = us ++ [u] ∧ Paired R us xs ∧ R u x := by
  have hl := pr_len h
  rw [List.length_append, List.length_singleton] at hl
  obtain ⟨u, hu, ru⟩ := pr_get' (i := xs.length) (x := x) h (by simp)
  refine ⟨vs.take xs.length, u, ?_, ?_, ru⟩
  · have e : vs.take (xs.length + 1) = vs.take xs.length ++ [u] := by rw [List.take_add_one, hu]; rfl
    rw [← e, ← hl, List.take_length]
  · have := pr_take xs.length h
    rw [List.take_left'] at this
    · exact this
    · rfl
theorem set_last {α : Type} (xs : List α) (x y : α) : (xs ++ [x]).set xs.length y = xs ++ [y] := by
  rw [List.set_append_right _ _ (Nat.le_refl _), Nat.sub_self]
  rfl
section
variable {P : Program} {w : World} {K : PySem.W.Frag} {mg : Str → Option Value} {base : Heap}
theorem ok_law_told_rows {f : Addr} {fd : FuncData} (F0 : Fun K "_law_told_rows" "_law_told_rows" s_law_told_rows f fd) : FnOk P w K mg base CX0 1 f fd ["_law_names_here"] spTold := by
  refine F0.ok sc_law_told_rows (fun vs H Q E h => ?_) (fun cdv A outer s H vs Q E hr h => ?_)
  · obtain ⟨F, v, ps, rfl, _⟩ := h
    rfl
  · obtain ⟨F, v, ps, rfl, fh, ⟨a, xs, rfl, ha, hp⟩, hsort, hl, q⟩ := h
    have hu := hr.units
    refine ⟨_, pss_cons (ps_set (i := 1) sc_law_told_rows.nd rfl (.inl rfl) (pe_lst pa_nil))
      (pss_cons (ps_for PassesOwn.never rfl (pi_list (pv 0)) (pg_tup rfl (pgs_cons (pg_name (i := 2) sc_law_told_rows.nd rfl (.inl rfl)) (pgs_cons (pg_name (i := 3) sc_law_told_rows.nd rfl (.inl rfl)) pgs_nil)))
        (pss_one (ps_if (PW.pt (pw_and (pt_cmpR (op_neD hu) (pv 1) (pe_lst pa_nil) (nomark _))
            (pw_and (pt_cmpR op_eq (pe_ix ix_tup (pe_ix ix_list (pv 1) (pe_un un_neg pe_int) (fun _ _ => rfl)) pe_int (fun _ _ => rfl)) (pv 2) (nomark _))
            (pw_and1 (pt_cmpR op_eq (pe_op op_add (pe_ix ix_tup (pe_ix ix_list (pv 1) (pe_un un_neg pe_int) (fun _ _ => rfl)) pe_int (fun _ _ => rfl)) pe_int) (pv 3) (nomark _))))))
          (pss_one (ps_asg (pe_tup (pa_cons (pv 2) (pa_cons (pe_ix ix_tup (pe_ix ix_list (pv 1) (pe_un un_neg pe_int) (fun _ _ => rfl)) pe_int (fun _ _ => rfl)) (pa_cons (pv 3) pa_nil)))) (pg_sub (pv 1) (pe_un un_neg pe_int) set_list)))
          (pss_one (ps_expr (pe_bm PySem.F.plainAttrs_list PySem.F.slot_list_append PySem.F.type_list_append mt_append (pv 1) (pa_cons (pe_tup (pa_cons (pv 2) (pa_cons (pv 3) (pa_cons (pv 3) pa_nil)))) pa_nil)))))))
      (pss_one (ps_ret (pv 1)))), ?_⟩
    refine ⟨Nat.zero_le _, fun o no => ?_⟩
    have Fo : F o = none := fh.free no
    have X0 : Ext M0 F H F (upd H o (.lst [])) := (Ext.refl fh).tmp no
    have ho0 : upd H o (.lst []) o = some (.lst []) := upd_same
    revert X0 ho0
    generalize upd H o (.lst []) = H0
    intro X0 ho0
    refine ⟨_, rfl, a, rfl, ⟨xs, SqL.of (X0.fh _ _ ha)⟩, for_list (K := K) (a := a) (xs := xs) (fun i σ H' => ∃ F' acc out y2 y3, σ = [some (.ref a), some (.ref o), y2, y3] ∧ Ext M0 F H F' H' ∧ F' o = none ∧ H' o = some (.lst acc) ∧ Paired (kRow.is F') acc out ∧ ToldOf (ps.take i) out)
      ⟨F, [], [], none, none, rfl, X0, Fo, ho0, .nil, ToldOf.nil⟩ (fun i σ H' _ ⟨_, _, _, _, _, _, X, _⟩ => SqL.of (X.fh _ _ (X.ff _ _ ha))) ?_ ?_⟩
    · rintro i x σ H1 hi ⟨F1, acc, out, y2, y3, rfl, X1, fo, ho1, hac, ht⟩
      obtain ⟨k, hk, t, rfl, htk⟩ := pr_get hp hi
      have htk1 := X1.fh _ _ (X1.ff _ _ htk)
      have eT : ps.take (i + 1) = ps.take i ++ [k] := by rw [List.take_add_one, hk]; rfl
      have hik : i < ps.length := (List.getElem?_eq_some_iff.mp hk).1
      have hlt : ∀ p ∈ ps.take i, lt2 p k := fun p hpm => by
        obtain ⟨j, hj, e⟩ := List.getElem_of_mem hpm
        have hji : j < i := by
          have := List.length_take_le i ps
          omega
        rw [List.getElem_take] at e
        have ek : ps[i] = k := by
          have := List.getElem?_eq_getElem hik
          rw [hk] at this
          exact (Option.some.inj this).symm
        rw [← e, ← ek]
        exact List.pairwise_iff_getElem.mp hsort j i (by omega) hik hji
      have la : acc.length ≤ 1000000 := by
        have h1 := List.length_take_le' i ps
        have := ht.len
        rw [pr_len hac]
        omega
      rw [eT]
      refine ⟨t, _, rfl, SqT.of htk1, rfl, _, _, rfl, _, _, rfl, rfl, ?_⟩
      refine ⟨_, rfl, Nat.zero_le _, fun p np => ?_⟩
      have op : o ≠ p := ne_of_none ho1 np
      have X2 := X1.tmp (o := .lst []) np
      have ho2 : upd H1 p (.lst []) o = some (.lst acc) := by rw [upd_ne op]; exact ho1
      refine ⟨dL dRow out, dL dRow [], (enc_L enc_row).dp (X2.frz no fo ho2).fh (kL_new fo hac), (enc_L enc_row).dp (k := kL kRow) (Same.refl _) ⟨p, [], rfl, upd_same, .nil⟩, shaped_rows _, shaped_rows _, ?_⟩
      rw [eqv_rows]
      revert X2 ho2
      generalize upd H1 p (.lst []) = H2
      intro X2 ho2
      by_cases z : ∃ init r, out = init ++ [r] ∧ r.1 = k.1 ∧ r.2.2 + 1 = k.2
      · obtain ⟨init, r, rfl, e1, e2⟩ := z
        obtain ⟨us, u, rfl, hus, tu, rfl, htu⟩ := pr_concat hac
        have lu : us.length = init.length := pr_len hus
        have htu2 := X2.fh _ _ htu
        have ne : (!decide (init ++ [r] = [])) = true := by rw [decide_eq_false (by simp)]; rfl
        rw [ne]
        refine ⟨_, rfl, iteT ?_⟩
        refine ⟨_, rfl, _, rfl, o, _, -1, .ref tu, rfl, rfl, SqL.of ho2, atI_last us _, tu, _, 0, _, rfl, rfl, SqT.of htu2, rfl, _, rfl, rfl, _, rfl, ?_⟩
        rw [decide_eq_true (show V.int r.1 = V.int k.1 by rw [e1])]
        refine iteT ?_
        refine ⟨_, rfl, _, rfl, o, _, -1, .ref tu, rfl, rfl, SqL.of ho2, atI_last us _, tu, _, 2, _, rfl, rfl, SqT.of htu2, rfl, _, _, rfl, rfl, _, rfl, rfl, _, rfl, ?_⟩
        rw [decide_eq_true (show V.int (r.2.2 + 1) = V.int k.2 by rw [e2])]
        refine iteT ?_
        -- found[-1] = (house, found[-1][1], number)
        refine ⟨_, rfl, _, rfl, _, rfl, o, _, -1, .ref tu, rfl, rfl, SqL.of ho2, atI_last us _, tu, _, 1, _, rfl, rfl, SqT.of htu2, rfl, _, rfl, (by show 3 ≤ sizeLine; decide), fun t2 nt2 => ?_⟩
        have ot : o ≠ t2 := ne_of_none ho2 nt2
        refine ⟨_, rfl, _, rfl, o, us ++ [.ref tu], -1, us.length, rfl, rfl, by rw [upd_ne ot]; exact ho2, by rw [List.length_append, List.length_singleton]; exact ixN_last _, ?_⟩
        rw [set_last]
        have fo9 : upd F1 t2 (.tup [.int k.1, .int r.2.1, .int k.2]) o = none := by rw [upd_ne ot]; exact fo
        have sm : Same F1 (upd F1 t2 (.tup [.int k.1, .int r.2.1, .int k.2])) := same_upd (X2.ffree nt2)
        exact ⟨upd F1 t2 (.tup [.int k.1, .int r.2.1, .int k.2]), us ++ [.ref t2], init ++ [(k.1, r.2.1, k.2)], _, _, rfl, (X2.lay nt2).put (.inl no) fo9, fo9, upd_same, pr_snoc (pr_mono (fun _ _ z => kRow.mono sm z) hus) ⟨t2, rfl, upd_same⟩, ht.grow hlt e1 e2⟩
      · have hn : ∀ init r, out = init ++ [r] → ¬ (r.1 = k.1 ∧ r.2.2 + 1 = k.2) := fun init r e q => z ⟨init, r, e, q⟩
        have fin := ht.more hlt hn
        rcases List.eq_nil_or_concat out with c | ⟨init, r, c⟩
        · have ne : (!decide (out = [])) = false := by rw [decide_eq_true c]; rfl
          rw [ne]
          refine ⟨_, rfl, iteF (iteF ?_)⟩
          refine ⟨_, rfl, .inl ⟨rfl, _, SqL.of ho2⟩, _, rfl, _, rfl, _, rfl, (by show 3 ≤ sizeLine; decide), fun t2 nt2 => ?_⟩
          have ot : o ≠ t2 := ne_of_none ho2 nt2
          refine ⟨o, acc, _, rfl, rfl, by rw [upd_ne ot]; exact ho2, by rw [sizeLine_eq]; omega, ?_⟩
          have fo9 : upd F1 t2 (.tup [.int k.1, .int k.2, .int k.2]) o = none := by rw [upd_ne ot]; exact fo
          have sm : Same F1 (upd F1 t2 (.tup [.int k.1, .int k.2, .int k.2])) := same_upd (X2.ffree nt2)
          exact ⟨upd F1 t2 (.tup [.int k.1, .int k.2, .int k.2]), acc ++ [.ref t2], out ++ [(k.1, k.2, k.2)], _, _, rfl, (X2.lay nt2).put (.inl no) fo9, fo9, upd_same, pr_snoc (pr_mono (fun _ _ z => kRow.mono sm z) hac) ⟨t2, rfl, upd_same⟩, fin⟩
        · rw [List.concat_eq_append] at c
          subst c
          have hac' := hac
          obtain ⟨us, u, rfl, hus, tu, rfl, htu⟩ := pr_concat hac
          have htu2 := X2.fh _ _ htu
          have ne : (!decide (init ++ [r] = [])) = true := by rw [decide_eq_false (by simp)]; rfl
          rw [ne]
          refine ⟨_, rfl, iteT ?_⟩
          refine ⟨_, rfl, _, rfl, o, _, -1, .ref tu, rfl, rfl, SqL.of ho2, atI_last us _, tu, _, 0, _, rfl, rfl, SqT.of htu2, rfl, _, rfl, rfl, _, rfl, ?_⟩
          by_cases e1 : r.1 = k.1
          · have e2 : ¬ r.2.2 + 1 = k.2 := fun e2 => hn init r rfl ⟨e1, e2⟩
            rw [decide_eq_true (show V.int r.1 = V.int k.1 by rw [e1])]
            refine iteT ?_
            refine ⟨_, rfl, _, rfl, o, _, -1, .ref tu, rfl, rfl, SqL.of ho2, atI_last us _, tu, _, 2, _, rfl, rfl, SqT.of htu2, rfl, _, _, rfl, rfl, _, rfl, rfl, _, rfl, ?_⟩
            rw [decide_eq_false (show ¬ V.int (r.2.2 + 1) = V.int k.2 from fun z => e2 (V.int.inj z))]
            refine iteF ?_
            refine ⟨_, rfl, .inl ⟨rfl, _, SqL.of ho2⟩, _, rfl, _, rfl, _, rfl, (by show 3 ≤ sizeLine; decide), fun t2 nt2 => ?_⟩
            have ot : o ≠ t2 := ne_of_none ho2 nt2
            refine ⟨o, _, _, rfl, rfl, by rw [upd_ne ot]; exact ho2, by rw [sizeLine_eq]; omega, ?_⟩
            have fo9 : upd F1 t2 (.tup [.int k.1, .int k.2, .int k.2]) o = none := by rw [upd_ne ot]; exact fo
            have sm : Same F1 (upd F1 t2 (.tup [.int k.1, .int k.2, .int k.2])) := same_upd (X2.ffree nt2)
            exact ⟨upd F1 t2 (.tup [.int k.1, .int k.2, .int k.2]), _, _, _, _, rfl, (X2.lay nt2).put (.inl no) fo9, fo9, upd_same, pr_snoc (pr_mono (fun _ _ z => kRow.mono sm z) hac') ⟨t2, rfl, upd_same⟩, fin⟩
          · rw [decide_eq_false (show ¬ V.int r.1 = V.int k.1 from fun z => e1 (V.int.inj z))]
            refine iteF (iteF ?_)
            refine ⟨_, rfl, .inl ⟨rfl, _, SqL.of ho2⟩, _, rfl, _, rfl, _, rfl, (by show 3 ≤ sizeLine; decide), fun t2 nt2 => ?_⟩
            have ot : o ≠ t2 := ne_of_none ho2 nt2
            refine ⟨o, _, _, rfl, rfl, by rw [upd_ne ot]; exact ho2, by rw [sizeLine_eq]; omega, ?_⟩
            have fo9 : upd F1 t2 (.tup [.int k.1, .int k.2, .int k.2]) o = none := by rw [upd_ne ot]; exact fo
            have sm : Same F1 (upd F1 t2 (.tup [.int k.1, .int k.2, .int k.2])) := same_upd (X2.ffree nt2)
            exact ⟨upd F1 t2 (.tup [.int k.1, .int k.2, .int k.2]), _, _, _, _, rfl, (X2.lay nt2).put (.inl no) fo9, fo9, upd_same, pr_snoc (pr_mono (fun _ _ z => kRow.mono sm z) hac') ⟨t2, rfl, upd_same⟩, fin⟩
    · rintro σ H1 ⟨F1, acc, out, y2, y3, rfl, X1, fo, ho1, hac, ht⟩
      rw [pr_len hp, List.take_length] at ht
      exact ⟨_, rfl, q F1 H1 o acc out X1 no fo ho1 hac ht⟩
end
end Rw
namespace Rw
open PySem L2
/-! ### what drawing may change: the dice alone; tuples may be taken into the frame -/
structure XD (d : Addr) (F H F' H' : Hp) : Prop where
  ff : Same F F'
  fh : Same F' H'
  hh : ∀ b o, H b = some o → b ≠ d → H' b = some o
  tr : ∀ b, H b ≠ none → H' b ≠ none
  nw : ∀ b o, H b = some o → (∀ xs, o ≠ .tup xs) → b ≠ d → F' b = F b
section
variable {d : Addr} {F H F' H' F'' H'' : Hp} {p : Addr} {o : HO}
theorem XD.of (X : Ext (· = d) F H F' H') : XD d F H F' H' := ⟨X.ff, X.fh, X.hh, X.tr, fun b o e _ _ => X.new b (by rw [e]; simp)⟩
theorem XD.trans (a : XD d F H F' H') (b : XD d F' H' F'' H'') : XD d F H F'' H'' :=
  ⟨a.ff.trans b.ff, b.fh, fun c u h m => b.hh c u (a.hh c u h m) m, fun c h => b.tr c (a.tr c h), fun c u h t m => (b.nw c u (a.hh c u h m) t m).trans (a.nw c u h t m)⟩
theorem XD.step (a : XD d F H F' H') (b : Ext M0 F' H' F'' H'') : XD d F H F'' H'' := a.trans (.of b.up)
theorem XD.draw (a : XD d F H F' H') (b : Ext (· = d) F' H' F'' H'') : XD d F H F'' H'' := a.trans (.of b)
theorem XD.free (a : XD d F H F' H') (h : H' p = none) : H p = none := by
  cases q : H p with
  | none => rfl
  | some u => exact absurd h (a.tr p (by rw [q]; simp))
theorem XD.lay (a : XD d F H F' H') (h : H' p = none) : XD d F H (upd F' p o) (upd H' p o) := a.step ((Ext.refl a.fh).lay h)
theorem XD.tmp (a : XD d F H F' H') (h : H' p = none) : XD d F H F' (upd H' p o) := a.step ((Ext.refl a.fh).tmp h)
theorem XD.put (a : XD d F H F' H') (h : H p = none) (f : F' p = none) : XD d F H F' (upd H' p o) := by
  refine ⟨a.ff, same_put a.fh f, fun b u e m => ?_, fun b e => ?_, a.nw⟩
  · rw [upd_ne (ne_of_none e h)]; exact a.hh b u e m
  · by_cases hb : b = p
    · subst hb; rw [upd_same]; simp
    · rw [upd_ne hb]; exact a.tr b e
theorem XD.absb (a : XD d F H F' H') : XD d F H (Rw.absb F' H') H' :=
  ⟨a.ff.trans (absb_sub a.fh), absb_same a.fh, a.hh, a.tr, fun b u e t m => by
    rw [absb_ne (fun xs z => by rw [a.hh b u e m] at z; exact t xs (Option.some.inj z))]
    exact a.nw b u e t m⟩
theorem XD.frz (a : XD d F H F' H') (h : H p = none) (f : F' p = none) (e : H' p = some o) : XD d F H (upd F' p o) H' := by
  refine ⟨a.ff.trans (same_upd f), fun b u z => ?_, a.hh, a.tr, fun b u z t m => ?_⟩
  · by_cases hb : b = p
    · subst hb; rw [upd_same] at z; cases z; exact e
    · rw [upd_ne hb] at z; exact a.fh b u z
  · rw [upd_ne (ne_of_none z h)]; exact a.nw b u z t m
theorem XD.refl (s : Same F H) : XD d F H F H := .of (Ext.refl s)
theorem DiceAt.absX {K : PySem.W.Frag} {F H : Hp} {d s : Addr} {ns : List Int} (D : DiceAt K F H d s ns) : DiceAt K (Rw.absb F H) H d s ns := by
  obtain ⟨i, m, r, hd, g⟩ := D.ex
  refine ⟨absb_same D.fh, ?_, (absb_sub D.fh).seq D.sc, i, m, r, hd, g⟩
  rw [absb_ne (fun xs e => by rw [hd] at e; cases e)]
  exact D.fd
theorem DiceAt.fzX {K : PySem.W.Frag} {F H : Hp} {d s o : Addr} {x : HO} {ns : List Int} (D : DiceAt K F H d s ns) (n : d ≠ o) (f : F o = none) (e : H o = some x) : DiceAt K (upd F o x) H d s ns :=
  ⟨fun b u z => by
    by_cases hb : b = o
    · rw [hb, upd_same] at z; rw [hb, e]; exact z
    · rw [upd_ne hb] at z; exact D.fh b u z, by rw [upd_ne n]; exact D.fd, (same_upd f).seq D.sc, D.ex⟩
end
/-- a thing drawn -/
def Kept (K : PySem.W.Frag) {α : Type} (F H : Hp) (d s : Addr) (ns : List Int) (k : Kd α) (φ : α → Prop) (Q : VK) : Prop := ∀ (F' H' : Hp) (v : V) (x : α), XD d F H F' H' → DiceAt K F' H' d s ns → k.is F' v x → φ x → Q v H'
/-- nothing of the house 7 is taken back, or sealed -/
def TameW : What → Prop
  | .back h _ => h < 7
  | .shut rows => ∀ r ∈ rows, r.1 < 7
  | _ => True
theorem told_tame {qs : List Pt} {out : List Row} (t : ToldOf qs out) (h : ∀ p ∈ qs, p.1 < 7) : ∀ r ∈ out, r.1 < 7 := fun r hr => h _ ((t.mem (r.1, r.2.1)).mp (t.can.first hr))
def spLawWhat (K : PySem.W.Frag) : Sp := fun vs H Q _ => ∃ (F : Hp) (d s : Addr) (ns : List Int) (houses : Int), vs = [.ref d, .int houses] ∧ DiceAt K F H d s ns ∧ 1 ≤ houses ∧ houses ≤ 7 ∧ Kept K F H d s ns kWhat (fun w => WhatOk w ∧ TameW w) Q
structure TxW (mg : Str → Option Value) : Prop where
  tuple : mg "tuple" = none
def box8 : List Pt := (List.range 8).flatMap fun (h : Nat) => (List.range 8).map fun (n : Nat) => ((h : Int), (n : Int) + 1)
theorem box8_len : box8.length = 64 := by decide +kernel
theorem box8_mem {p : Pt} (a : 0 ≤ p.1) (b : p.1 ≤ 7) (c : 1 ≤ p.2) (e : p.2 ≤ 8) : p ∈ box8 := by
  refine List.mem_flatMap.mpr ⟨p.1.toNat, by simp; omega, List.mem_map.mpr ⟨(p.2 - 1).toNat, by simp; omega, Prod.ext ?_ ?_⟩⟩
  · show (p.1.toNat : Int) = p.1; omega
  · show ((p.2 - 1).toNat : Int) + 1 = p.2; omega
theorem seal_ok {rs out : List Row} {qs : List Pt} {h : Int} (h7 : h ≤ 7) (hd : ∀ r ∈ rs, Drawn h 8 r) (n : NamesOf rs qs) (t : ToldOf qs out) : RowsOk out ∧ Canon out := by
  have bx : ∀ p ∈ qs, 0 ≤ p.1 ∧ p.1 ≤ 7 ∧ 1 ≤ p.2 ∧ p.2 ≤ 8 := fun p hp => by
    obtain ⟨r, hr, i1, i2, i3⟩ := (n.mem p).mp hp
    obtain ⟨a, b, c, e, f⟩ := hd r hr
    omega
  have l : qs.length ≤ 64 := by
    rw [← box8_len]
    refine nodup_sub qs box8 (n.sort.imp fun {a b} z e => ?_) fun p hp => ?_
    · subst e; unfold lt2 at z; omega
    · obtain ⟨a, b, c, e⟩ := bx p hp
      exact box8_mem a b c e
  refine ⟨⟨by have := t.len; omega, canon_ok t.can fun p m => ?_⟩, t.can⟩
  obtain ⟨a, b, c, e⟩ := bx p ((t.mem p).mp m)
  have eL : LIM = 1000000000000 := rfl
  unfold InBox
  omega
section
variable {P : Program} {w : World} {K : PySem.W.Frag} {mg : Str → Option Value} {base : Heap}
end
end Rw
namespace Rw
open PySem L2
/-! ### the law's deeds -/
/-- nothing of the house 7 -/
def TameD (x : Deed) : Prop := x.h < 7 ∧ TameW x.w ∧ x.t ≤ 1000
def Vals (F : Hp) (kvs : List (List Key × V)) : Prop := ∀ kv ∈ kvs, ∃ x : Deed, kDeed.is F kv.2 x ∧ kk (name x) = kv.1 ∧ DeedOk x ∧ TameD x
theorem Vals.mono {F F' : Hp} {kvs : List (List Key × V)} (s : Same F F') (h : Vals F kvs) : Vals F' kvs := fun kv hk => by
  obtain ⟨x, a, b⟩ := h kv hk
  exact ⟨x, kDeed.mono s a, b⟩
theorem Vals.put {F : Hp} {kvs : List (List Key × V)} (h : Vals F kvs) {v : V} {x : Deed} (hv : kDeed.is F v x) (ok : DeedOk x) (t : TameD x) : Vals F (putK kvs (kk (name x)) v) := fun kv hk => by
  unfold putK at hk
  split at hk
  · obtain ⟨e, he, rfl⟩ := List.mem_map.mp hk
    by_cases c : e.1 = kk (name x)
    · rw [if_pos c]; exact ⟨x, hv, c.symm, ok, t⟩
    · rw [if_neg c]; exact h e he
  · rcases List.mem_append.mp hk with hk | hk
    · exact h kv hk
    · rw [List.mem_singleton.mp hk]; exact ⟨x, hv, rfl, ok, t⟩
theorem Vals.get {F : Hp} {kvs : List (List Key × V)} {ps : List Pt} (h : Vals F kvs) (k : DKy kvs ps) {p : Pt} (hp : p ∈ ps) : ∃ v x, valV kvs (kk p) = some v ∧ kDeed.is F v x ∧ name x = p ∧ DeedOk x ∧ TameD x := by
  have h1 : kk p ∈ kvs.map (·.1) := by rw [k.keys]; exact List.mem_map.mpr ⟨p, hp, rfl⟩
  obtain ⟨kv, hk, e⟩ := List.mem_map.mp h1
  have f : (kvs.find? fun kv => decide (kv.1 = kk p)).isSome := List.find?_isSome.mpr ⟨kv, hk, decide_eq_true e⟩
  obtain ⟨kv', f'⟩ := Option.isSome_iff_exists.mp f
  have e' : kv'.1 = kk p := by simpa using List.find?_some f'
  obtain ⟨x, a, b, c, d⟩ := h kv' (List.mem_of_find?_eq_some f')
  exact ⟨kv'.2, x, by unfold valV; rw [f']; rfl, a, kk_inj (by rw [b, e']), c, d⟩
structure Drawn5 (most : Int) (ds : List Deed) : Prop where
  ok : ∀ x ∈ ds, DeedOk x
  tame : ∀ x ∈ ds, TameD x
  uniq : Uniq ds
  len : (ds.length : Int) ≤ most
theorem pr_erase {α : Type} {R : V → α → Prop} : ∀ {vs : List V} {xs : List α} (k : Nat), Paired R vs xs → Paired R (vs.eraseIdx k) (xs.eraseIdx k)
  | _, _, _, .nil => .nil
  | _, _, 0, .cons _ t => t
  | _, _, k + 1, .cons r t => .cons r (pr_erase k t)
theorem seq_at {z : Int} {n : Nat} (h0 : 0 ≤ z) (h1 : z < n) : seqIndex? z n = some z.toNat := by
  unfold seqIndex?
  simp only
  rw [if_neg (by omega : ¬ z < 0), if_pos (by simp [h0, h1])]
/-- what is left, what is found -/
structure Parted (ps lq : List Pt) (ds : List Deed) : Prop where
  nd : lq.Nodup
  sub : ∀ q ∈ lq, q ∈ ps
  ok : ∀ x ∈ ds, DeedOk x
  tame : ∀ x ∈ ds, TameD x
  off : ∀ x ∈ ds, name x ∉ lq
  apart : (ds.map name).Nodup
  len : ds.length + lq.length ≤ ps.length
theorem Parted.move {ps lq : List Pt} {ds : List Deed} (h : Parted ps lq ds) {k : Nat} {x : Deed} (e : lq[k]? = some (name x)) (ok : DeedOk x) (t : TameD x) : Parted ps (lq.eraseIdx k) (ds ++ [x]) := by
  have hk : k < lq.length := (List.getElem?_eq_some_iff.mp e).1
  have ek : lq[k] = name x := (List.getElem?_eq_some_iff.mp e).2
  have m : name x ∈ lq := by rw [← ek]; exact List.getElem_mem hk
  have sub : (lq.eraseIdx k).Sublist lq := List.eraseIdx_sublist ..
  have gone : name x ∉ lq.eraseIdx k := fun z => by
    have nd := h.nd
    rw [← ek] at z
    obtain ⟨j, hj, hjk, e2⟩ := List.mem_eraseIdx_iff_getElem.mp z
    rcases Nat.lt_trichotomy j k with c | c | c
    · exact (List.pairwise_iff_getElem.mp nd) j k hj hk c e2
    · exact hjk c
    · exact (List.pairwise_iff_getElem.mp nd) k j hk hj c e2.symm
  refine ⟨h.nd.sublist sub, fun q hq => h.sub q (sub.mem hq), fun y hy => ?_, fun y hy => ?_, fun y hy => ?_, ?_, ?_⟩
  · rcases List.mem_append.mp hy with hy | hy
    · exact h.ok y hy
    · rw [List.mem_singleton.mp hy]; exact ok
  · rcases List.mem_append.mp hy with hy | hy
    · exact h.tame y hy
    · rw [List.mem_singleton.mp hy]; exact t
  · rcases List.mem_append.mp hy with hy | hy
    · exact fun z => h.off y hy (sub.mem z)
    · rw [List.mem_singleton.mp hy]; exact gone
  · rw [List.map_append]
    refine List.nodup_append.mpr ⟨h.apart, by simp, fun a ha b hb e => ?_⟩
    obtain ⟨y, hy, rfl⟩ := List.mem_map.mp ha
    rw [List.map_singleton, List.mem_singleton] at hb
    exact h.off y hy (by rw [e, hb]; exact m)
  · rw [List.length_append, List.length_eraseIdx_of_lt hk, List.length_singleton]
    have := h.len
    omega
theorem uniq_of {ds : List Deed} (h : (ds.map name).Nodup) : Uniq ds := by
  intro a ha b hb e
  have h' : ds.Pairwise fun a b => name a ≠ name b := List.pairwise_map.mp h
  obtain ⟨i, hi, rfl⟩ := List.getElem_of_mem ha
  obtain ⟨j, hj, rfl⟩ := List.getElem_of_mem hb
  rcases Nat.lt_trichotomy i j with c | c | c
  · exact absurd e (List.pairwise_iff_getElem.mp h' i j hi hj c)
  · subst c; rfl
  · exact absurd e.symm (List.pairwise_iff_getElem.mp h' j i hj hi c)
def spLawDeeds (K : PySem.W.Frag) : Sp := fun vs H Q _ => ∃ (F : Hp) (d s : Addr) (ns : List Int) (most : Int), vs = [.ref d, .int most] ∧ DiceAt K F H d s ns ∧ 0 ≤ most ∧ most ≤ 1000 ∧ Kept K F H d s ns (kL kDeed) (Drawn5 most) Q
theorem DiceAt.stepX {K : PySem.W.Frag} {F H F' H' : Hp} {d s : Addr} {ns : List Int} (D : DiceAt K F H d s ns) (h : ∀ i m r, H d = some (dice s i m r) → H' d = some (dice s i m r)) (ff : Same F F') (fh : Same F' H') (fd : F' d = none) : DiceAt K F' H' d s ns := by
  obtain ⟨i, m, r, hd, g⟩ := D.ex
  exact ⟨fh, fd, ff.seq D.sc, i, m, r, h _ _ _ hd, g⟩
section
variable {P : Program} {w : World} {K : PySem.W.Frag} {mg : Str → Option Value} {base : Heap}
end
end Rw
namespace Rw
open PySem L2
/-! ### deeds as data of the library -/
def dWhat : What → PyData
  | .chg b k x => .tuple [.str (wStr b), .int k, .int x]
  | .back h n => .tuple [.str "back", .int h, .int n]
  | .shut rows => .tuple [.str "seal", .tuple (rows.map dRow)]
  | .bye => .tuple [.str "bye"]
def dDeed (x : Deed) : PyData := .tuple [.int x.h, .int x.n, .int x.t, dWhat x.w]
theorem enc_what : kWhat.Enc dWhat := ⟨fun {K F H v x} s h => by
  cases x with
  | chg b k y =>
    obtain ⟨a, rfl, ha⟩ := h
    exact .tup (SqT.of (s _ _ ha)) (.cons (.str _) (.cons (.int _) (.cons (.int _) .nil)))
  | back g n =>
    obtain ⟨a, rfl, ha⟩ := h
    exact .tup (SqT.of (s _ _ ha)) (.cons (.str _) (.cons (.int _) (.cons (.int _) .nil)))
  | shut rows =>
    obtain ⟨a, u, rfl, ha, b, xs, rfl, hb, p⟩ := h
    exact .tup (SqT.of (s _ _ ha)) (.cons (.str _) (.cons (.tup (SqT.of (s _ _ hb)) (dpAll enc_row s p)) .nil))
  | bye =>
    obtain ⟨a, rfl, ha⟩ := h
    exact .tup (SqT.of (s _ _ ha)) (.cons (.str _) .nil)⟩
theorem enc_deed : kDeed.Enc dDeed := ⟨fun s ⟨a, u, e, ha, hw⟩ => by
  subst e
  exact .tup (SqT.of (s _ _ ha)) (.cons (.int _) (.cons (.int _) (.cons (.int _) (.cons (enc_what.dp s hw) .nil))))⟩
theorem eqv_what (a b : What) : PyData.eqv (dWhat a) (dWhat b) = decide (a = b) := by
  have n1 : ∀ c, wStr c ≠ ("back" : Str) := fun c => by cases c <;> decide
  have n2 : ∀ c, wStr c ≠ ("seal" : Str) := fun c => by cases c <;> decide
  have n3 : ∀ c, wStr c ≠ ("bye" : Str) := fun c => by cases c <;> decide
  have n4 : ("back" : Str) ≠ "seal" := by decide
  have n5 : ("back" : Str) ≠ "bye" := by decide
  have n6 : ("seal" : Str) ≠ "bye" := by decide
  have inj : ∀ c d, wStr c = wStr d → c = d := fun c d => by cases c <;> cases d <;> decide
  cases a <;> cases b <;> simp only [dWhat, PyData.eqv, PyData.eqvAll, Bool.and_true, eqvAll_rows, What.chg.injEq, What.back.injEq, What.shut.injEq, reduceCtorEq, decide_false]
  · rename_i c k x c' k' x'
    by_cases e1 : c = c'
    · subst e1
      by_cases e2 : k = k' <;> by_cases e3 : x = x' <;> simp [e2, e3]
    · have : wStr c ≠ wStr c' := fun z => e1 (inj _ _ z)
      simp [e1, this]
  all_goals first | (simp [n1, n2, n3, n4, n5, n6, Ne.symm (n1 _), Ne.symm (n2 _), Ne.symm (n3 _), n4.symm, n5.symm, n6.symm]; done) | skip
  all_goals (rename_i a b a' b'; by_cases e1 : a = a' <;> by_cases e2 : b = b' <;> simp [e1, e2])
theorem eqv_deed (a b : Deed) : PyData.eqv (dDeed a) (dDeed b) = decide (a = b) := by
  obtain ⟨h, n, t, w⟩ := a
  obtain ⟨h', n', t', w'⟩ := b
  simp only [dDeed, PyData.eqv, PyData.eqvAll, Bool.and_true, eqv_what, Deed.mk.injEq]
  by_cases e1 : h = h' <;> by_cases e2 : n = n' <;> by_cases e3 : t = t' <;> by_cases e4 : w = w' <;> simp [e1, e2, e3, e4]
theorem so1 : PyData.strOk ("back" : Str) = true := by kernel_rfl
theorem so2 : PyData.strOk ("seal" : Str) = true := by kernel_rfl
theorem so3 : PyData.strOk ("bye" : Str) = true := by kernel_rfl
theorem so4 : ∀ b, PyData.strOk (wStr b) = true
  | true => show PyData.strOk ("add" : Str) = true by kernel_rfl
  | false => show PyData.strOk ("put" : Str) = true by kernel_rfl
theorem lay_what (x : What) : (dWhat x).canLay0 = true ∧ (dWhat x).depth ≤ 3 := by
  cases x with
  | shut rows =>
    have h := depth_rows rows
    refine ⟨?_, ?_⟩
    · simp [dWhat, PyData.canLay0, PyData.canLayAll0, canLay_rows, so1, so2, so3, so4]
    · simp only [dWhat, PyData.depth, PyData.depthAll]
      omega
  | chg b k x => exact ⟨by simp [dWhat, PyData.canLay0, PyData.canLayAll0, so1, so2, so3, so4], by simp [dWhat, PyData.depth, PyData.depthAll]⟩
  | back b k => exact ⟨by simp [dWhat, PyData.canLay0, PyData.canLayAll0, so1, so2, so3, so4], by simp [dWhat, PyData.depth, PyData.depthAll]⟩
  | bye => exact ⟨by simp [dWhat, PyData.canLay0, PyData.canLayAll0, so1, so2, so3, so4], by simp [dWhat, PyData.depth, PyData.depthAll]⟩
theorem lay_deed (x : Deed) : (dDeed x).canLay0 = true ∧ (dDeed x).depth ≤ 4 := by
  obtain ⟨a, b⟩ := lay_what x.w
  refine ⟨by simp [dDeed, PyData.canLay0, PyData.canLayAll0, a], ?_⟩
  simp only [dDeed, PyData.depth, PyData.depthAll]
  omega
theorem lay_deeds : ∀ xs : List Deed, PyData.canLayAll0 (xs.map dDeed) = true ∧ PyData.depthAll (xs.map dDeed) ≤ 4
  | [] => ⟨rfl, by simp [PyData.depthAll]⟩
  | x :: xs => by
    obtain ⟨a, b⟩ := lay_deeds xs
    obtain ⟨c, d⟩ := lay_deed x
    rw [List.map_cons, PyData.canLayAll0, PyData.depthAll, a, c]
    exact ⟨rfl, by omega⟩
theorem shaped_deed (x : Deed) : SeqAt.shaped (dDeed x) = true := by
  obtain ⟨c, d⟩ := lay_deed x
  unfold SeqAt.shaped
  rw [c]
  simp
  omega
theorem shaped_deeds (xs : List Deed) : SeqAt.shaped (.list (xs.map dDeed)) = true := by
  obtain ⟨c, d⟩ := lay_deeds xs
  unfold SeqAt.shaped
  rw [PyData.canLay0, PyData.depth, c]
  simp
  omega
theorem any_deeds (x : Deed) : ∀ xs : List Deed, ((xs.map dDeed).any fun z => PyData.eqv z (dDeed x)) = decide (x ∈ xs)
  | [] => by simp
  | y :: xs => by
    rw [List.map_cons, List.any_cons, any_deeds x xs, eqv_deed]
    by_cases e : y = x <;> by_cases m : x ∈ xs
    · simp [e, m]
    · simp [e, m]
    · simp [e, m]
    · have e' : ¬ x = y := fun z => e z.symm
      simp [e, m, e']
/-! ### the law's houses -/
def hcnt (m : Int) (es : List Deed) : Nat := (es.filter fun x => decide (x.h = m)).length
def topT (ds : List Deed) : Int := ds.foldr (fun x m => max x.t m) 0
theorem topT_ge {x : Deed} : ∀ {ds : List Deed}, x ∈ ds → x.t ≤ topT ds
  | y :: ds, h => by
    show x.t ≤ max y.t (topT ds)
    rcases List.mem_cons.mp h with e | h
    · subst e; omega
    · have := topT_ge h; omega
theorem topT_nn : ∀ ds : List Deed, 0 ≤ topT ds
  | [] => Int.le_refl _
  | y :: ds => by
    show 0 ≤ max y.t (topT ds)
    have := topT_nn ds
    omega
theorem topT_le {z : Int} (h0 : 0 ≤ z) : ∀ {ds : List Deed}, (∀ x ∈ ds, x.t ≤ z) → topT ds ≤ z
  | [], _ => h0
  | y :: ds, h => by
    show max y.t (topT ds) ≤ z
    have := topT_le h0 (ds := ds) fun x hx => h x (List.mem_cons_of_mem _ hx)
    have := h y List.mem_cons_self
    omega
theorem topT_or : ∀ ds : List Deed, topT ds = 0 ∨ ∃ x ∈ ds, x.t = topT ds
  | [] => .inl rfl
  | y :: ds => by
    show max y.t (topT ds) = 0 ∨ ∃ x ∈ y :: ds, x.t = max y.t (topT ds)
    by_cases c : topT ds ≤ y.t
    · exact .inr ⟨y, List.mem_cons_self, by omega⟩
    · rcases topT_or ds with e | ⟨x, hx, e⟩
      · exact .inl (by omega)
      · exact .inr ⟨x, List.mem_cons_of_mem _ hx, by omega⟩
theorem topT_append (ds es : List Deed) : topT ds ≤ topT (ds ++ es) := topT_le (topT_nn _) fun x hx => topT_ge (List.mem_append_left _ hx)
structure Seen (m : Int) (es ds : List Deed) : Prop where
  sub : ∀ x ∈ ds, x ∈ es
  nd : (ds.map name).Nodup
  top : (hcnt m es : Int) ≤ topT ds
/-- tame, and no bye -/
def TameN : What → Prop
  | .chg _ _ _ => True
  | .back h _ => h < 7
  | .shut rows => ∀ r ∈ rows, r.1 < 7
  | .bye => False
theorem TameN.tame : ∀ {w : What}, TameN w → TameW w
  | .chg _ _ _, h => h
  | .back _ _, h => h
  | .shut _, h => h
  | .bye, h => h.elim
theorem TameN.nb {w : What} (h : TameN w) : w ≠ .bye := fun e => by rw [e] at h; exact h
structure DrawnR (most : Int) (ds : List Deed) : Prop extends Drawn5 most ds where
  nb : ∀ x ∈ ds, x.w ≠ .bye
structure Real (houses : Int) (i : Nat) (dss : List (List Deed)) (es : List Deed) : Prop where
  len : (dss.length : Int) = houses
  few : houses ≤ 4
  ok : ∀ x ∈ es, DeedOk x
  tame : ∀ x ∈ es, TameN x.w
  hs : ∀ x ∈ es, x.h < houses
  nums : ∀ x ∈ es, x.n ≤ hcnt x.h es
  uniq : (es.map name).Nodup
  tm : ∀ x ∈ es, x.t ≤ i
  cl : es.length ≤ i
  seen : ∀ (m : Nat) ds, dss[m]? = some ds → Seen m es ds
theorem hcnt_le (m : Int) (es : List Deed) : hcnt m es ≤ es.length := List.length_filter_le ..
theorem hcnt_snoc (m : Int) (es : List Deed) (x : Deed) : hcnt m (es ++ [x]) = hcnt m es + (if x.h = m then 1 else 0) := by
  unfold hcnt
  rw [List.filter_append, List.length_append]
  by_cases e : x.h = m
  · rw [List.filter_cons_of_pos (by simpa using e), if_pos e]; rfl
  · rw [List.filter_cons_of_neg (by simpa using e), if_neg e]; rfl
theorem Real.later {houses : Int} {i : Nat} {dss : List (List Deed)} {es : List Deed} (R : Real houses i dss es) : Real houses (i + 1) dss es :=
  ⟨R.len, R.few, R.ok, R.tame, R.hs, R.nums, R.uniq, fun x hx => by have := R.tm x hx; omega, by have := R.cl; omega, R.seen⟩
theorem Real.look {houses : Int} {i m : Nat} {dss : List (List Deed)} {es ds ds' : List Deed} (R : Real houses i dss es) (hm : dss[m]? = some ds) (hs : ∀ x ∈ ds', x ∈ es) (nd : (ds'.map name).Nodup) (ap : ∀ x ∈ ds', x ∉ ds) : Real houses (i + 1) (dss.set m (ds ++ ds')) es := by
  have R' := R.later
  have sm := R.seen m ds hm
  have uq := uniq_of R.uniq
  refine ⟨by rw [List.length_set]; exact R.len, R.few, R.ok, R.tame, R.hs, R.nums, R.uniq, R'.tm, R'.cl, fun k es' hk => ?_⟩
  rw [List.getElem?_set] at hk
  by_cases c : m = k
  · subst c
    rw [if_pos rfl] at hk
    split at hk
    · cases hk
      refine ⟨fun x hx => (List.mem_append.mp hx).elim (sm.sub x) (hs x), ?_, Int.le_trans sm.top (topT_append _ _)⟩
      rw [List.map_append]
      refine List.nodup_append.mpr ⟨sm.nd, nd, fun a ha b hb e => ?_⟩
      obtain ⟨x, hx, rfl⟩ := List.mem_map.mp ha
      obtain ⟨y, hy, rfl⟩ := List.mem_map.mp hb
      have := uq x (sm.sub x hx) y (hs y hy) e
      exact ap y hy (this ▸ hx)
    · cases hk
  · rw [if_neg c] at hk
    exact R.seen k es' hk
theorem Real.add {houses : Int} {i m : Nat} {dss : List (List Deed)} {es ds : List Deed} (R : Real houses i dss es) (hm : dss[m]? = some ds) {x : Deed} (eh : x.h = m) (en : x.n = 1 + hcnt m es) (et : x.t = 1 + topT ds) (iL : i < 100) (ok : WhatOk x.w) (t : TameN x.w) : Real houses (i + 1) (dss.set m (ds ++ [x])) (es ++ [x]) := by
  have sm := R.seen m ds hm
  have eL : LIM = 1000000000000 := rfl
  have ml : (m : Int) < houses := by
    have := (List.getElem?_eq_some_iff.mp hm).1
    have := R.len
    omega
  have f4 := R.few
  have ti : topT ds ≤ i := topT_le (by omega) fun y hy => R.tm y (sm.sub y hy)
  have ce := hcnt_le m es
  have cl := R.cl
  have okx : DeedOk x := ⟨by omega, by omega, by omega, by have := sm.top; omega, by omega, ok⟩
  have one : ∀ y ∈ es ++ [x], y ∈ es ∨ y = x := fun y hy => by simpa using hy
  refine ⟨by rw [List.length_set]; exact R.len, f4, fun y hy => ?_, fun y hy => ?_, fun y hy => ?_, fun y hy => ?_, ?_, fun y hy => ?_, by simp; omega, fun k es' hk => ?_⟩
  · rcases one y hy with h | rfl
    · exact R.ok y h
    · exact okx
  · rcases one y hy with h | rfl
    · exact R.tame y h
    · exact t
  · rcases one y hy with h | rfl
    · exact R.hs y h
    · rw [eh]; exact ml
  · rw [hcnt_snoc]
    rcases one y hy with h | rfl
    · have := R.nums y h
      split <;> omega
    · rw [if_pos rfl, eh, en]; omega
  · rw [List.map_append]
    refine List.nodup_append.mpr ⟨R.uniq, by simp, fun a ha b hb e => ?_⟩
    obtain ⟨y, hy, rfl⟩ := List.mem_map.mp ha
    rw [List.map_singleton, List.mem_singleton] at hb
    rw [hb] at e
    have e1 : y.h = x.h := congrArg Prod.fst e
    have e2 : y.n = x.n := congrArg Prod.snd e
    have := R.nums y hy
    rw [e1, eh] at this
    omega
  · rcases one y hy with h | rfl
    · have := R.tm y h; omega
    · omega
  · rw [List.getElem?_set] at hk
    by_cases c : m = k
    · subst c
      rw [if_pos rfl] at hk
      split at hk
      · cases hk
        refine ⟨fun y hy => ?_, ?_, ?_⟩
        · rcases List.mem_append.mp hy with h | h
          · exact List.mem_append_left _ (sm.sub y h)
          · exact List.mem_append_right _ h
        · rw [List.map_append]
          refine List.nodup_append.mpr ⟨sm.nd, by simp, fun a ha b hb e => ?_⟩
          obtain ⟨y, hy, rfl⟩ := List.mem_map.mp ha
          rw [List.map_singleton, List.mem_singleton] at hb
          rw [hb] at e
          have e1 : y.h = x.h := congrArg Prod.fst e
          have e2 : y.n = x.n := congrArg Prod.snd e
          have := R.nums y (sm.sub y hy)
          rw [e1, eh] at this
          omega
        · have h1 : x.t ≤ topT (ds ++ [x]) := topT_ge (List.mem_append_right _ List.mem_cons_self)
          rw [hcnt_snoc, if_pos eh]
          have := sm.top
          omega
      · cases hk
    · rw [if_neg c] at hk
      have so := R.seen k es' hk
      refine ⟨fun y hy => List.mem_append_left _ (so.sub y hy), so.nd, ?_⟩
      rw [hcnt_snoc, if_neg (by rw [eh]; omega)]
      have := so.top
      omega
end Rw
namespace Rw
open PySem L2
abbrev nReal : List Str := ["_law_d", "_law_houses", "_law_seen", "_law_every", "_law_turn", "_law_me", "_law_other", "_law_kind", "_law_deed", "_law_some", "_law_what", "_law_number", "_law_house", "_law_one"]
def spLawReal (K : PySem.W.Frag) : Sp := fun vs H Q _ => ∃ (F : Hp) (d s : Addr) (ns : List Int), vs = [.ref d] ∧ DiceAt K F H d s ns ∧ Kept K F H d s ns (kL kDeed) (DrawnR 40) Q
structure TxR (mg : Str → Option Value) : Prop where
  max : mg "max" = none
/-- the heap in between -/
structure RS (K : PySem.W.Frag) (d s : Addr) (ns : List Int) (S E : Addr) (F0 H0 F H : Hp) (dss : List (List Deed)) (es : List Deed) : Prop where
  xd : XD d F0 H0 F H
  di : DiceAt K F H d s ns
  seen : ∃ vss, H S = some (.lst vss) ∧ Paired ((kL kDeed).is F) vss dss
  fS : F S = none
  ev : ∃ evs, H E = some (.lst evs) ∧ Paired (kDeed.is F) evs es
  fE : F E = none
  nS : H0 S = none
  nE : H0 E = none
  dS : d ≠ S
  dE : d ≠ E
  SE : S ≠ E
section
variable {K : PySem.W.Frag} {d s S E : Addr} {ns : List Int} {F0 H0 F H F' H' : Hp} {dss : List (List Deed)} {es : List Deed}
theorem RS.step (R : RS K d s ns S E F0 H0 F H dss es) (X : Ext M0 F H F' H') : RS K d s ns S E F0 H0 F' H' dss es := by
  obtain ⟨vss, h1, p1⟩ := R.seen
  obtain ⟨evs, h2, p2⟩ := R.ev
  exact ⟨R.xd.step X, R.di.step X, ⟨vss, X.same _ _ h1, pr_mono (fun _ _ r => (kL kDeed).mono X.ff r) p1⟩, by rw [X.new S (by rw [h1]; simp)]; exact R.fS, ⟨evs, X.same _ _ h2, pr_mono (fun _ _ r => kDeed.mono X.ff r) p2⟩, by rw [X.new E (by rw [h2]; simp)]; exact R.fE, R.nS, R.nE, R.dS, R.dE, R.SE⟩
theorem RS.draw (R : RS K d s ns S E F0 H0 F H dss es) (X : Ext (· = d) F H F' H') (D : DiceAt K F' H' d s ns) : RS K d s ns S E F0 H0 F' H' dss es := by
  obtain ⟨vss, h1, p1⟩ := R.seen
  obtain ⟨evs, h2, p2⟩ := R.ev
  exact ⟨R.xd.draw X, D, ⟨vss, X.hh _ _ h1 R.dS.symm, pr_mono (fun _ _ r => (kL kDeed).mono X.ff r) p1⟩, by rw [X.new S (by rw [h1]; simp)]; exact R.fS, ⟨evs, X.hh _ _ h2 R.dE.symm, pr_mono (fun _ _ r => kDeed.mono X.ff r) p2⟩, by rw [X.new E (by rw [h2]; simp)]; exact R.fE, R.nS, R.nE, R.dS, R.dE, R.SE⟩
theorem RS.absb (R : RS K d s ns S E F0 H0 F H dss es) : RS K d s ns S E F0 H0 (Rw.absb F H) H dss es := by
  obtain ⟨vss, h1, p1⟩ := R.seen
  obtain ⟨evs, h2, p2⟩ := R.ev
  have m := absb_sub R.di.fh
  exact ⟨R.xd.absb, R.di.absX, ⟨vss, h1, pr_mono (fun _ _ r => (kL kDeed).mono m r) p1⟩, by rw [absb_ne (fun xs e => by rw [h1] at e; cases e)]; exact R.fS, ⟨evs, h2, pr_mono (fun _ _ r => kDeed.mono m r) p2⟩, by rw [absb_ne (fun xs e => by rw [h2] at e; cases e)]; exact R.fE, R.nS, R.nE, R.dS, R.dE, R.SE⟩
theorem RS.same (R : RS K d s ns S E F0 H0 F H dss es) : Same F H := R.di.fh
theorem RS.setS (R : RS K d s ns S E F0 H0 F H dss es) {vss : List V} {dss' : List (List Deed)} (p : Paired ((kL kDeed).is F) vss dss') : RS K d s ns S E F0 H0 F (upd H S (.lst vss)) dss' es := by
  obtain ⟨evs, h2, p2⟩ := R.ev
  exact ⟨R.xd.put R.nS R.fS, R.di.set R.dS R.fS, ⟨vss, upd_same, p⟩, R.fS, ⟨evs, by rw [upd_ne R.SE.symm]; exact h2, p2⟩, R.fE, R.nS, R.nE, R.dS, R.dE, R.SE⟩
theorem RS.setE (R : RS K d s ns S E F0 H0 F H dss es) {evs : List V} {es' : List Deed} (p : Paired (kDeed.is F) evs es') : RS K d s ns S E F0 H0 F (upd H E (.lst evs)) dss es' := by
  obtain ⟨vss, h1, p1⟩ := R.seen
  exact ⟨R.xd.put R.nE R.fE, R.di.set R.dE R.fE, ⟨vss, by rw [upd_ne R.SE]; exact h1, p1⟩, R.fS, ⟨evs, upd_same, p⟩, R.fE, R.nS, R.nE, R.dS, R.dE, R.SE⟩
end
open Classical in
noncomputable def ptAt (H : Hp) (v : V) : Int × Int := if h : ∃ q : Pt, kPt.is H v q then Classical.choose h else (0, 0)
theorem kPt_fun {H : Hp} {v : V} {p q : Pt} (h1 : kPt.is H v p) (h2 : kPt.is H v q) : p = q := by
  obtain ⟨t, rfl, e1⟩ := h1
  obtain ⟨u, e, e2⟩ := h2
  cases e
  have e3 := Option.some.inj (e1.symm.trans e2)
  injection e3 with e4
  injection e4 with a b
  injection b with b c
  exact Prod.ext (V.int.inj a) (V.int.inj b)
theorem ptAt_is {H : Hp} {v : V} {q : Pt} (h : kPt.is H v q) : ptAt H v = q := by
  have hx : ∃ q : Pt, kPt.is H v q := ⟨q, h⟩
  unfold ptAt
  rw [dif_pos hx]
  exact kPt_fun (Classical.choose_spec hx) h
theorem ptAt_map {H : Hp} : ∀ {vs : List V} {ps : List Pt}, Paired (kPt.is H) vs ps → vs.map (ptAt H) = ps
  | _, _, .nil => rfl
  | _, _, .cons r t => by rw [List.map_cons, ptAt_is r, ptAt_map t]
theorem paired_map {α : Type} {R : V → α → Prop} {k : V → α} : ∀ {vs : List V}, (∀ v ∈ vs, R v (k v)) → Paired R vs (vs.map k)
  | [], _ => .nil
  | v :: vs, h => .cons (h v List.mem_cons_self) (paired_map fun u hu => h u (List.mem_cons_of_mem _ hu))
theorem sorted_pts2 {H : Hp} {xs ys : List V} {ps : List Pt} (h : Paired (kPt.is H) xs ps) (nd : ps.Nodup) (s1 : SrtO.Srtd (ltP (ptAt H)) ys) (s2 : SrtO.Stb (ltP (ptAt H)) ys xs) :
    ∃ qs : List Pt, Paired (kPt.is H) ys qs ∧ qs.Perm ps ∧ qs.Pairwise lt2 := by
  have pm : (ys.map (ptAt H)).Perm ps := by rw [← ptAt_map h]; exact s2.perm.map _
  refine ⟨ys.map (ptAt H), paired_map fun v hv => ?_, pm, ?_⟩
  · obtain ⟨q, _, hq⟩ := pr_mem h (s2.perm.mem_iff.mp hv)
    rw [ptAt_is hq]; exact hq
  · have n2 : (ys.map (ptAt H)).Nodup := pm.nodup_iff.mpr nd
    have n3 : ys.Pairwise fun a b => ptAt H a ≠ ptAt H b := List.pairwise_map.mp n2
    refine List.pairwise_map.mpr ((s1.and n3).imp fun {a b} ⟨h1, h2⟩ => ?_)
    have h1 := SrtO.lexB_no.mp h1
    have h3 : ¬ ((ptAt H a).1 = (ptAt H b).1 ∧ (ptAt H a).2 = (ptAt H b).2) := fun z => h2 (Prod.ext z.1 z.2)
    unfold lt2
    omega
theorem seen_ok {ps qs : List Pt} {out : List Row} (bx : ∀ p ∈ ps, 0 ≤ p.1 ∧ p.1 < 7 ∧ 1 ≤ p.2 ∧ p.2 ≤ LIM) (pm : qs.Perm ps) (l : ps.length ≤ 40) (t : ToldOf qs out) : RowsOk out ∧ Canon out := by
  refine ⟨⟨by have := t.len; have := pm.length_eq; omega, canon_ok t.can fun p m => ?_⟩, t.can⟩
  obtain ⟨a, b, c, e⟩ := bx p (pm.mem_iff.mp ((t.mem p).mp m))
  unfold InBox
  omega
/-- between two statements of the turn -/
def JR (K : PySem.W.Frag) (d s : Addr) (ns : List Int) (S E : Addr) (F0 H0 : Hp) (dss : List (List Deed)) (es : List Deed) (hs' : Int) (i m o : Nat) (kind : Int) (y8 : Option V) (D am : Addr) (xm : List V) (dm : List Deed) (ps : List Pt) : L2.St → Hp → Prop := fun σ' H' =>
  ∃ F' u wt y11 y12 y13, σ' = [some (V.ref d), some (.int (2 + hs')), some (.ref S), some (.ref E), some (.int (0 + (i : Int))), some (.int m), some (.int o), some (.int kind), y8, some (.ref D), some u, y11, y12, y13] ∧
    RS K d s ns S E F0 H0 F' H' dss es ∧ (kL kPt).is F' (.ref D) ps ∧ F' am = some (.lst xm) ∧ Paired (kDeed.is F') xm dm ∧ (∃ vss, H' S = some (.lst vss) ∧ vss[m]? = some (.ref am) ∧ Paired ((kL kDeed).is F') vss dss) ∧ kWhat.is F' u wt ∧ WhatOk wt ∧ TameN wt
theorem seq_join {a b : TS} {D : Ends} {σ : L2.St} {H : Hp} (J : L2.St → Hp → Prop) (h2 : ∀ σ H, J σ H → b D σ H) (h1 : (∀ σ H, J σ H → b D σ H) → tSeq a b D σ H) : tSeq a b D σ H := h1 h2
theorem ixN_at {n j : Nat} (h : j < n) : ixN n (j : Int) = some j := by
  unfold ixN
  rw [if_pos (by omega), if_pos (by omega)]
  congr 1
theorem pr_set {α : Type} {R : V → α → Prop} {v : V} {x : α} (r : R v x) : ∀ {vs : List V} {xs : List α} (k : Nat), Paired R vs xs → Paired R (vs.set k v) (xs.set k x)
  | _, _, _, .nil => .nil
  | _, _, 0, .cons _ t => .cons r t
  | _, _, k + 1, .cons r' t => .cons r' (pr_set r k t)
section
variable {P : Program} {w : World} {K : PySem.W.Frag} {mg : Str → Option Value} {base : Heap}
theorem ok_law_real {f : Addr} {fd : FuncData} (F0 : Fun K "_law_real" "_law_real" s_law_real f fd) (T : TxL mg) (TN : TxN mg) (TW : TxW mg) (TR : TxR mg) (CN : Cal P w K mg base 1 "_law_next" ["_law_dice_here", "_law_many"] (spNext K))
    (CT : Cal P w K mg base 1 "_law_told_rows" ["_law_names_here"] spTold) : FnOk P w K mg base CX0 2 f fd ["_law_d"] (spLawReal K) := by
  obtain ⟨f1, fd1, G1, g1, kp1, b1⟩ := CN
  obtain ⟨f2, fd2, G2, g2, kp2, b2⟩ := CT
  refine F0.ok sc_law_real (fun vs H Q E h => ?_) (fun cdv A outer s0 H vs Q E hr h => ?_)
  · obtain ⟨F, d, s, ns, rfl, _⟩ := h
    rfl
  · obtain ⟨F, d, s, ns, rfl, D0, q⟩ := h
    have eL : LIM = 1000000000000 := rfl
    have hr1 : Room 1 _ := hr.mono (by decide)
    have hu := hu_of hr
    have hu0 : (A.deeper (PyProof.Rows.envOfC "_law_real" (defScope s_law_real) s0.heap.objs.size f cdv)).units < cLine := by have := hr.un; omega
    have hu5 : (A.deeper (PyProof.Rows.envOfC "_law_real" (defScope s_law_real) s0.heap.objs.size f cdv)).units + 65 < cLine := by have := hr.un; omega
    refine ⟨_, pss_cons (ps_set (i := 1) sc_law_real.nd rfl (.inl rfl) (pe_op op_add pe_int (pe_call G1 hr1 (by rfl) g1 kp1 b1 .nil pass0 (pa_cons (pv 0) (pa_cons pe_int pa_nil)))))
      (pss_cons (ps_set (i := 2) sc_law_real.nd rfl (.inr rfl) (pe_lc (own := [("_law_house", 12)]) (g := gName 12) (tt := tYes) (te := tLst tNil) (by rfl) sc_law_real.nd (pi_range1 (by rfl) T.range (pa_cons (pv 1) pa_nil))
          (blkOk_by (own := [("_law_house", 12)]) (N := nReal) (sc := defScope s_law_real) (by decide +kernel)) (fun _ _ _ _ _ => pg_name (i := 12) sc_law_real.nd rfl (.inl rfl)) (fun _ _ _ _ _ => pts_nil) (fun _ _ _ _ _ => pe_lst pa_nil)))
      (pss_cons (ps_set (i := 3) sc_law_real.nd rfl (.inl rfl) (pe_lst pa_nil))
      (pss_cons (ps_for PassesOwn.never rfl (pi_range1 (by rfl) T.range (pa_cons (pe_call G1 hr1 (by rfl) g1 kp1 b1 .nil pass0 (pa_cons (pv 0) (pa_cons pe_int pa_nil))) pa_nil)) (pg_name (i := 4) sc_law_real.nd rfl (.inl rfl))
        (pss_cons (ps_asg (pe_tup (pa_cons (pe_call G1 hr1 (by rfl) g1 kp1 b1 .nil pass0 (pa_cons (pv 0) (pa_cons (pv 1) pa_nil))) (pa_cons (pe_call G1 hr1 (by rfl) g1 kp1 b1 .nil pass0 (pa_cons (pv 0) (pa_cons (pv 1) pa_nil))) pa_nil)))
            (pg_tup rfl (pgs_cons (pg_name (i := 5) sc_law_real.nd rfl (.inr rfl)) (pgs_cons (pg_name (i := 6) sc_law_real.nd rfl (.inl rfl)) pgs_nil))))
        (pss_cons (ps_set (i := 7) sc_law_real.nd rfl (.inl rfl) (pe_call G1 hr1 (by rfl) g1 kp1 b1 .nil pass0 (pa_cons (pv 0) (pa_cons pe_int pa_nil))))
        (pss_one (ps_if (pt_cmpR op_lt (pv 7) pe_int (nomark _))
          (pss_one (ps_asg (pe_op op_cat (pe_ix ix_list (pv 2) (pv 5) (fun _ _ => rfl)) (pe_lc (own := [("_law_deed", 8)]) (g := gName 8) (tt := tTest (tOp (rNotInD K) (tVar 8) (tOp (rIxL K) (tVar 2) (tVar 5)))) (te := tVar 8) (by rfl) sc_law_real.nd (pi_list (pe_ix ix_list (pv 2) (pv 6) (fun _ _ => rfl)))
              (blkOk_by (own := [("_law_deed", 8)]) (N := nReal) (sc := defScope s_law_real) (by decide +kernel)) (fun _ _ _ _ _ => pg_name (i := 8) sc_law_real.nd rfl (.inl rfl)) (fun _ _ _ _ _ => pts_one (pt_cmpR (op_notInD hu5) (pv 8) (pe_ix ix_list (pv 2) (pv 5) (fun _ _ => rfl)) (by rfl))) (fun _ _ _ _ _ => pv 8)))
            (pg_sub (pv 2) (pv 5) set_list)))
          (pss_cons (ps_setLc (i := 9) (own := [("_law_deed", 8)]) (g := gName 8) (tt := tTest (tOp (rIn K false) (tOp (rIxT K) (tOp (rIxT K) (tVar 8) (tC (.int 3))) (tC (.int 0))) (tTup (tCons (tC (.str "put")) (tCons (tC (.str "add")) (tCons (tC (.str "back")) tNil)))))) (te := tSl (rSlT K) (tVar 8) tNoPart (tPart (tC (.int 2)))) (by rfl) sc_law_real.nd rfl rfl rfl (pi_list (pe_ix ix_list (pv 2) (pv 5) (fun _ _ => rfl)))
              (blkOk_by (own := [("_law_deed", 8)]) (N := nReal) (sc := defScope s_law_real) (by decide +kernel)) (fun _ _ _ _ _ => pg_name (i := 8) sc_law_real.nd rfl (.inl rfl))
              (fun _ _ _ _ _ => pts_one (pt_cmpR op_in_seq (pe_ix ix_tup (pe_ix ix_tup (pv 8) pe_int (fun _ _ => rfl)) pe_int (fun _ _ => rfl)) (pe_tup (pa_cons pe_str (pa_cons pe_str (pa_cons pe_str pa_nil)))) (by rfl)))
              (fun _ _ _ _ _ => pe_slice sl_tup (pv 8) po_none (po_some pe_int)))
          (pss_cons (ps_set (i := 10) sc_law_real.nd rfl (.inl rfl) (pe_tup (pa_cons (pe_ix ix_list (pe_lst (pa_cons pe_str (pa_cons pe_str pa_nil))) (pe_op op_mod (pv 7) pe_int) (fun _ _ => rfl))
              (pa_cons (pe_call G1 hr1 (by rfl) g1 kp1 b1 .nil pass0 (pa_cons (pv 0) (pa_cons pe_int pa_nil))) (pa_cons (pe_op op_sub (pe_call G1 hr1 (by rfl) g1 kp1 b1 .nil pass0 (pa_cons (pv 0) (pa_cons pe_int pa_nil))) pe_int) pa_nil)))))
          (pss_cons (ps_if (PW.pt (pw_and (pt_cmpR op_eq (pv 7) pe_int (nomark _)) (pw_and1 (pt_cmpR (op_neL0 hu0) (pv 9) (pe_lst pa_nil) (nomark _)))))
            (pss_one (ps_set (i := 10) sc_law_real.nd rfl (.inl rfl) (pe_op op_catT (pe_tup (pa_cons pe_str pa_nil)) (pe_ix ix_list (pv 9) (pe_callB (call_max2 (by rfl)) (by rfl) TR.max (by decide +kernel) (pa_cons pe_int
              (pa_cons (pe_op op_sub (pe_op op_sub (pe_callB call_len (by rfl) T.len PySem.boot_len (pa_cons (pv 9) pa_nil)) pe_int) (pe_call G1 hr1 (by rfl) g1 kp1 b1 .nil pass0 (pa_cons (pv 0) (pa_cons pe_int pa_nil)))) pa_nil))) (fun _ _ => rfl))))) pss_nil)
          (pss_cons (ps_if (PW.pt (pw_and (pt_cmpR op_eq (pv 7) pe_int (nomark _)) (pw_and1 (pt_cmpR op_eq (pe_call G1 hr1 (by rfl) g1 kp1 b1 .nil pass0 (pa_cons (pv 0) (pa_cons pe_int pa_nil))) pe_int (nomark _)))))
            (pss_one (ps_set (i := 10) sc_law_real.nd rfl (.inl rfl) (pe_tup (pa_cons pe_str (pa_cons (pe_callTy call_tuple_of (by rfl) TW.tuple (by decide +kernel) (pa_cons (pe_call G2 hr1 (by rfl) g2 kp2 b2 .nil pass0 (pa_cons
              (pe_callB cr_sortedPO (by rfl) TN.sorted (by decide +kernel) (pa_cons (pe_lc (own := [("_law_deed", 8)]) (g := gName 8) (tt := tYes) (te := tSl (rSlT K) (tVar 8) tNoPart (tPart (tC (.int 2)))) (by rfl) sc_law_real.nd (pi_list (pe_ix ix_list (pv 2) (pv 5) (fun _ _ => rfl)))
                (blkOk_by (own := [("_law_deed", 8)]) (N := nReal) (sc := defScope s_law_real) (by decide +kernel)) (fun _ _ _ _ _ => pg_name (i := 8) sc_law_real.nd rfl (.inl rfl)) (fun _ _ _ _ _ => pts_nil) (fun _ _ _ _ _ => pe_slice sl_tup (pv 8) po_none (po_some pe_int))) pa_nil)) pa_nil)) pa_nil)) pa_nil))))) pss_nil)
          (pss_cons (ps_set (i := 11) sc_law_real.nd rfl (.inl rfl) (pe_op op_add pe_int (pe_callB call_len (by rfl) T.len PySem.boot_len (pa_cons (pe_lc (own := [("_law_deed", 8)]) (g := gName 8) (tt := tTest (tOp rEq (tOp (rIxT K) (tVar 8) (tC (.int 0))) (tVar 5))) (te := tVar 8) (by rfl) sc_law_real.nd (pi_list (pv 3))
                (blkOk_by (own := [("_law_deed", 8)]) (N := nReal) (sc := defScope s_law_real) (by decide +kernel)) (fun _ _ _ _ _ => pg_name (i := 8) sc_law_real.nd rfl (.inl rfl)) (fun _ _ _ _ _ => pts_one (pt_cmpR op_eq (pe_ix ix_tup (pv 8) pe_int (fun _ _ => rfl)) (pv 5) (nomark _))) (fun _ _ _ _ _ => pv 8)) pa_nil))))
          (pss_cons (ps_set (i := 8) sc_law_real.nd rfl (.inl rfl) (pe_tup (pa_cons (pv 5) (pa_cons (pv 11) (pa_cons (pe_op op_add pe_int (pe_callB (cr_max (by rfl)) (by rfl) TR.max (by decide +kernel) (pa_cons (pe_op op_cat (pe_lst (pa_cons pe_int pa_nil))
                (pe_lc (own := [("_law_one", 13)]) (g := gName 13) (tt := tYes) (te := tOp (rIxT K) (tVar 13) (tC (.int 2))) (by rfl) sc_law_real.nd (pi_list (pe_ix ix_list (pv 2) (pv 5) (fun _ _ => rfl)))
                (blkOk_by (own := [("_law_one", 13)]) (N := nReal) (sc := defScope s_law_real) (by decide +kernel)) (fun _ _ _ _ _ => pg_name (i := 13) sc_law_real.nd rfl (.inl rfl)) (fun _ _ _ _ _ => pts_nil) (fun _ _ _ _ _ => pe_ix ix_tup (pv 13) pe_int (fun _ _ => rfl)))) pa_nil))) (pa_cons (pv 10) pa_nil))))))
          (pss_cons (ps_asg (pe_op op_cat (pe_ix ix_list (pv 2) (pv 5) (fun _ _ => rfl)) (pe_lst (pa_cons (pv 8) pa_nil))) (pg_sub (pv 2) (pv 5) set_list))
          (pss_one (ps_expr (pe_bm PySem.F.plainAttrs_list PySem.F.slot_list_append PySem.F.type_list_append mt_append (pv 3) (pa_cons (pv 8) pa_nil))))))))))))))))
      (pss_one (ps_ret (pv 3)))))), ?_⟩
    refine ⟨_, rfl, F, d, s, ns, 3, rfl, D0, by decide, by decide, fun hs' H1 k0 k1 X1 D1 => ⟨_, _, rfl, rfl, ?_⟩⟩
    refine ⟨_, rfl, _, rfl, by omega, by omega, fun S nS => ?_⟩
    have nS0 : H S = none := (XD.of X1).free nS
    have dS : d ≠ S := D1.ne nS
    have fS : F S = none := D1.fh.free nS
    refine it_by walk_range (fun i H' => ∃ (F' : Hp) (vss : List V), XD d F H F' H' ∧ DiceAt K F' H' d s ns ∧ H' S = some (.lst vss) ∧ F' S = none ∧ Paired ((kL kDeed).is F') vss (List.replicate i []))
      ⟨F, [], (XD.of X1).tmp nS, D1.tmp nS, upd_same, fS, .nil⟩ (fun _ _ _ _ => trivial) ?_ ?_
    · rintro i x H2 H3 hi ⟨F2, vss, X2, D2, hS2, fS2, hv2⟩ ⟨rfl, rfl⟩
      refine ⟨rfl, Nat.zero_le _, fun p np => ?_⟩
      have Sp : S ≠ p := ne_of_none hS2 np
      have fp := X2.fh.free np
      have l2 : vss.length = i := by rw [pr_len hv2, List.length_replicate]
      refine ⟨vss, by rw [upd_ne Sp]; exact hS2, by rw [sizeLine_eq]; omega, upd F2 p (.lst []), vss ++ [.ref p], (X2.lay np).put nS0 (by rw [upd_ne Sp]; exact fS2), (D2.lay np).set dS (by rw [upd_ne Sp]; exact fS2), upd_same, by rw [upd_ne Sp]; exact fS2, ?_⟩
      rw [List.replicate_succ']
      exact pr_snoc (pr_mono (fun _ _ r => (kL kDeed).mono (same_upd fp) r) hv2) ⟨p, [], rfl, upd_same, .nil⟩
    · rintro H2 ⟨F2, vss, X2, D2, hS2, fS2, hv2⟩
      refine ⟨Nat.zero_le _, fun E' nE => ?_⟩
      have SE : S ≠ E' := ne_of_none hS2 nE
      have R0 : RS K d s ns S E' F H F2 (upd H2 E' (.lst [])) (List.replicate (2 + hs').toNat []) [] := ⟨X2.tmp nE, D2.tmp nE, ⟨vss, by rw [upd_ne SE]; exact hS2, by simpa using hv2⟩, fS2, ⟨[], upd_same, .nil⟩, X2.fh.free nE, nS0, X2.free nE, dS, D2.ne nE, SE⟩
      have L0 : Real (2 + hs') 0 (List.replicate (2 + hs').toNat []) [] := ⟨by simp; omega, by omega, by simp, by simp, by simp, by simp, by simp, by simp, by simp, fun m ds hm => by
        have e := List.mem_of_getElem? hm
        rw [(List.mem_replicate.mp e).2]
        exact ⟨by simp, by simp, by unfold hcnt; simp [topT]⟩⟩
      revert R0
      generalize upd H2 E' (.lst []) = H3
      intro R0
      refine ⟨_, rfl, F2, d, s, ns, 41, rfl, R0.di, by decide, by decide, fun many H4 z0 z1 X4 D4 => ?_⟩
      refine ⟨many, rfl, by omega, by omega, for_range (lo := 0) (n := many.toNat) (fun i σ H' => ∃ F' dss es y4 y5 y6 y7 y8 y9 y10 y11 y12 y13, σ = [some (.ref d), some (.int (2 + hs')), some (.ref S), some (.ref E'), y4, y5, y6, y7, y8, y9, y10, y11, y12, y13] ∧ RS K d s ns S E' F H F' H' dss es ∧ Real (2 + hs') i dss es)
        ⟨F2, _, _, none, none, none, none, none, none, none, none, none, none, rfl, R0.draw X4 D4, L0⟩ ?_ ?_⟩
      · rintro i σ H5 hi ⟨F5, dss, es, y4, y5, y6, y7, y8, y9, y10, y11, y12, y13, rfl, R5, L5⟩
        have il : i < 40 := by omega
        refine ⟨_, rfl, _, rfl, F5, d, s, ns, 2 + hs', rfl, R5.di, by omega, by omega, fun me H6 a0 a1 X6 D6 => ?_⟩
        have R6 := R5.draw X6 D6
        refine ⟨_, rfl, _, rfl, F5, d, s, ns, 2 + hs', rfl, R6.di, by omega, by omega, fun other H7 b0' b1' X7 D7 => ?_⟩
        have R7 := R6.draw X7 D7
        refine ⟨by show 2 ≤ sizeLine; decide, fun tp ntp => ⟨tp, _, rfl, SqT.of upd_same, rfl, _, _, rfl, _, _, rfl, rfl, ?_⟩⟩
        have R8 := R7.step ((Ext.refl R7.same).tmp (o := .tup [.int me, .int other]) ntp)
        revert R8
        generalize upd H7 tp (.tup [.int me, .int other]) = H8
        intro R8
        refine ⟨_, rfl, F5, d, s, ns, 6, rfl, R8.di, by decide, by decide, fun kind H9 c0 c1 X9 D9 => ⟨_, rfl, _, _, rfl, rfl, _, rfl, ?_⟩⟩
        have R9 := R8.draw X9 D9
        obtain ⟨m, rfl⟩ : ∃ m : Nat, me = (m : Int) := ⟨me.toNat, by omega⟩
        obtain ⟨o, rfl⟩ : ∃ o : Nat, other = (o : Int) := ⟨other.toNat, by omega⟩
        have ml : m < dss.length := by have := L5.len; omega
        have ol : o < dss.length := by have := L5.len; omega
        obtain ⟨vss, hS9, pS9⟩ := R9.seen
        obtain ⟨vm, hvm, kvm⟩ := pr_get' pS9 (List.getElem?_eq_getElem ml)
        obtain ⟨vo, hvo, kvo⟩ := pr_get' pS9 (List.getElem?_eq_getElem ol)
        have hm : dss[m]? = some dss[m] := List.getElem?_eq_getElem ml
        have ho : dss[o]? = some dss[o] := List.getElem?_eq_getElem ol
        have Sm := L5.seen m _ hm
        have So := L5.seen o _ ho
        have uq := uniq_of L5.uniq
        have few : ∀ ds : List Deed, (∀ x ∈ ds, x ∈ es) → (ds.map name).Nodup → ds.length ≤ 40 := fun ds h1 h2 => by
          have h3 : ds.Nodup := List.Pairwise.imp (fun {a b} n e => n (by rw [e])) (List.pairwise_map.mp h2)
          have := nodup_sub ds es h3 h1
          have := L5.cl
          omega
        have fm := few _ Sm.sub Sm.nd
        have fo := few _ So.sub So.nd
        generalize dss[m] = dm at *
        generalize dss[o] = do' at *
        obtain ⟨am, xm, rfl, ham, pam⟩ := kvm
        obtain ⟨ao, xo, rfl, hao, pao⟩ := kvo
        have lm := pr_len pam
        have lo := pr_len pao
        refine ite2 (fun c => ?_) (fun c => ?_)
        · -- looks at another's
          refine ⟨_, rfl, _, rfl, S, vss, (m : Int), _, rfl, rfl, SqL.of hS9, atI_nat hvm, ?_⟩
          refine ⟨_, rfl, _, rfl, S, vss, (o : Int), _, rfl, rfl, SqL.of hS9, atI_nat hvo, ao, rfl, ⟨_, SqL.of (R9.same _ _ hao)⟩, fun D nD => ?_⟩
          refine it_by (walk_list (K := K) (a := ao) (xs := xo)) (fun i H' => ∃ (acc : List V), Ext M0 F5 H9 F5 H' ∧ H' D = some (.lst acc) ∧ Paired (kDeed.is F5) acc ((do'.take i).filter fun x => decide (x ∉ dm)))
            ⟨[], (Ext.refl R9.same).tmp nD, upd_same, .nil⟩ (fun i H' _ ⟨_, X, _⟩ => SqL.of (X.fh _ _ hao)) ?_ ?_
          · rintro j x _ H10 hj ⟨acc, X10, hD, hacc⟩ ⟨rfl, hx⟩
            obtain ⟨e, he, hev⟩ := pr_get pao hx
            have eT : do'.take (j + 1) = do'.take j ++ [e] := by rw [List.take_add_one, he]; rfl
            have lacc : acc.length ≤ 40 := by
              rw [pr_len hacc]
              have h1 := List.length_filter_le (fun x => decide (x ∉ dm)) (do'.take j)
              have h2 := List.length_take_le' j do'
              omega
            refine ⟨rfl, _, rfl, _, rfl, _, rfl, S, vss, (m : Int), _, rfl, rfl, SqL.of (X10.same _ _ hS9), atI_nat hvm, dDeed e, dm.map dDeed, enc_deed.dp X10.fh hev, .lst (SqL.of (X10.fh _ _ ham)) (dpAll enc_deed X10.fh pam), shaped_deed e, shaped_deeds dm, ?_⟩
            rw [any_deeds]
            by_cases me : e ∈ dm
            · rw [decide_eq_true me]
              refine ⟨_, rfl, iteF ⟨acc, X10, hD, ?_⟩⟩
              rw [eT, List.filter_append, List.filter_cons_of_neg (by simpa using me), List.filter_nil, List.append_nil]
              exact hacc
            · rw [decide_eq_false me]
              refine ⟨_, rfl, iteT ?_⟩
              refine ⟨_, rfl, acc, hD, by rw [sizeLine_eq]; omega, acc ++ [x], X10.put (.inl nD) (R9.same.free nD), upd_same, ?_⟩
              rw [eT, List.filter_append, List.filter_cons_of_pos (by simpa using me), List.filter_nil]
              exact pr_snoc hacc hev
          · rintro H10 ⟨acc, X10, hD, hacc⟩
            rw [lo, List.take_length] at hacc
            have lacc : acc.length ≤ 40 := by
              rw [pr_len hacc]
              have h1 := List.length_filter_le (fun x => decide (x ∉ dm)) do'
              omega
            have R10 := R9.step X10
            refine ⟨am, D, xm, acc, rfl, rfl, X10.fh _ _ ham, hD, by rw [sizeLine_eq]; omega, fun p np => ?_⟩
            have R11 := R10.step ((Ext.refl R10.same).lay (o := .lst (xm ++ acc)) np)
            have sm := same_upd (o := .lst (xm ++ acc)) (R10.same.free np)
            obtain ⟨vss', hS11, pS11⟩ := R11.seen
            have e1 : vss' = vss := by
              have := ((Ext.refl R10.same).lay (o := .lst (xm ++ acc)) np).same _ _ (X10.same _ _ hS9)
              rw [hS11] at this
              cases this
              rfl
            subst e1
            have lv : vss'.length = dss.length := pr_len pS9
            refine ⟨_, rfl, _, rfl, S, vss', (m : Int), m, rfl, rfl, hS11, ixN_at (by omega), upd F5 p (.lst (xm ++ acc)), dss.set m (dm ++ do'.filter fun x => decide (x ∉ dm)), es, _, _, _, _, _, _, _, _, _, _, rfl, ?_, ?_⟩
            · exact R11.setS (pr_set ⟨p, xm ++ acc, rfl, upd_same, pr_mono (fun _ _ r => kDeed.mono sm r) (pr_append pam hacc)⟩ m pS11)
            · exact L5.look hm (fun x hx => So.sub x (List.mem_filter.mp hx).1) (List.Nodup.sublist (List.Sublist.map _ List.filter_sublist) So.nd) (fun x hx => by simpa using (List.mem_filter.mp hx).2)
        · refine ⟨_, rfl, _, rfl, S, vss, (m : Int), _, rfl, rfl, SqL.of hS9, atI_nat hvm, am, rfl, ⟨_, SqL.of (R9.same _ _ ham)⟩, fun D nD => ?_⟩
          refine it_by (walk_list (K := K) (a := am) (xs := xm)) (fun i H' => ∃ (F' : Hp) (acc : List V) (ps : List Pt), Ext M0 F5 H9 F' H' ∧ H' D = some (.lst acc) ∧ F' D = none ∧ Paired (kPt.is F') acc ps ∧ (∀ p ∈ ps, ∃ x ∈ dm, name x = p) ∧ ps.length ≤ i)
            ⟨F5, [], [], (Ext.refl R9.same).tmp nD, upd_same, R9.same.free nD, .nil, fun p h => absurd h (by simp), Nat.le_refl _⟩ (fun i H' _ ⟨_, _, _, X, _⟩ => SqL.of (X.fh _ _ (X.ff _ _ ham))) ?_ ?_
          · rintro j x _ H10 hj ⟨F10, acc, ps, X10, hD, fD, hacc, hps, lps⟩ ⟨rfl, hx⟩
            obtain ⟨e, he, hev⟩ := pr_get pam hx
            have hed := List.mem_of_getElem? he
            obtain ⟨ad, ud, rfl, had, hud⟩ := kDeed.mono X10.ff hev
            obtain ⟨aw, rest, rfl, haw⟩ := what_tup hud
            have lacc : acc.length ≤ 40 := by rw [pr_len hacc]; omega
            have had' := X10.fh _ _ had
            have haw' := X10.fh _ _ haw
            have at0 : atI (V.str (word e.w) :: rest) 0 = some (.str (word e.w)) := atI_nat (j := 0) rfl
            refine ⟨rfl, _, rfl, ad, _, 3, _, rfl, rfl, SqT.of had', rfl, aw, _, 0, .str (word e.w), rfl, rfl, SqT.of haw', at0, by show 3 ≤ sizeLine; decide, fun tp' ntp' => ⟨tp', _, rfl, .inr (SqT.of upd_same), rfl, rfl, ?_⟩⟩
            have X11 := X10.tmp (o := .tup [.str "put", .str "add", .str "back"]) ntp'
            have hD11 : upd H10 tp' (.tup [.str "put", .str "add", .str "back"]) D = some (.lst acc) := by rw [upd_ne (ne_of_none hD ntp')]; exact hD
            have had11 := X11.fh _ _ had
            rw [if_neg Bool.false_ne_true]
            refine ⟨_, rfl, ?_⟩
            by_cases z : inV (.str (word e.w)) [.str "put", .str "add", .str "back"] = true
            · rw [z]
              refine iteT ⟨_, rfl, 2, rfl, ad, _, rfl, SqT.of had11, (show ¬ (HT.sIx 4 0 none = 0 ∧ HT.sIx 4 4 (some 2) = 4) by decide), fun p np => ?_⟩
              rw [show cutV [V.int e.h, V.int e.n, V.int e.t, V.ref aw] none (some 2) = [.int e.h, .int e.n] from rfl]
              have Dp : D ≠ p := ne_of_none hD11 np
              have sm := same_upd (o := .tup [.int e.h, .int e.n]) (X11.fh.free np)
              refine ⟨acc, by rw [upd_ne Dp]; exact hD11, by rw [sizeLine_eq]; omega, upd F10 p (.tup [.int e.h, .int e.n]), acc ++ [.ref p], ps ++ [name e], (X11.lay np).put (.inl nD) (by rw [upd_ne Dp]; exact fD), upd_same, by rw [upd_ne Dp]; exact fD, pr_snoc (pr_mono (fun _ _ r => kPt.mono sm r) hacc) ⟨p, rfl, upd_same⟩, fun q hq => ?_, by simp; omega⟩
              rcases List.mem_append.mp hq with hq | hq
              · exact hps q hq
              · rw [List.mem_singleton.mp hq]; exact ⟨e, hed, rfl⟩
            · have z' : inV (.str (word e.w)) [.str "put", .str "add", .str "back"] = false := by simpa using z
              rw [z']
              exact iteF ⟨F10, acc, ps, X11, hD11, fD, hacc, hps, by omega⟩
          · rintro H10 ⟨F10, acc, ps, X10, hD, fD, hacc, hps, lps⟩
            have ks : (kL kPt).is (upd F10 D (.lst acc)) (.ref D) ps := kL_new fD hacc
            have R10 := R9.step (X10.frz nD fD hD)
            have ham10 := (X10.frz nD fD hD).ff _ _ ham
            have pam10 := pr_mono (fun _ _ r => kDeed.mono (X10.frz nD fD hD).ff r) pam
            clear hacc hD fD
            have hS10 : H10 S = some (.lst vss) := X10.same _ _ hS9
            revert ks R10 ham10 pam10
            generalize upd F10 D (.lst acc) = F11
            intro ks R10 ham10 pam10
            have sub5 : ∀ p ∈ ps, 0 ≤ p.1 ∧ p.1 < 7 ∧ 1 ≤ p.2 ∧ p.2 ≤ LIM := fun p hp => by
              obtain ⟨x, hx, rfl⟩ := hps p hp
              have o := L5.ok x (Sm.sub x hx)
              have := L5.hs x (Sm.sub x hx)
              have := L5.few
              exact ⟨o.h0, by show x.h < 7; omega, o.n1, Int.le_trans o.nt o.tl⟩
            refine ⟨by show 2 ≤ sizeLine; decide, fun p2 np2 => ?_⟩
            have R12 := R10.step ((Ext.refl R10.same).tmp (o := .lst [.str "put", .str "add"]) np2)
            have hp2 : upd H10 p2 (.lst [.str "put", .str "add"]) p2 = some (.lst [.str "put", .str "add"]) := upd_same
            have hS12 : upd H10 p2 (.lst [.str "put", .str "add"]) S = some (.lst vss) := same_upd np2 _ _ hS10
            revert R12 hp2 hS12
            generalize upd H10 p2 (.lst [.str "put", .str "add"]) = H12
            intro R12 hp2 hS12
            obtain ⟨b, hb⟩ : ∃ b : Bool, atI [V.str "put", V.str "add"] (kind % 2) = some (.str (wStr b)) := by
              rcases (show kind % 2 = 0 ∨ kind % 2 = 1 by omega) with z | z
              · exact ⟨false, by rw [z]; rfl⟩
              · exact ⟨true, by rw [z]; rfl⟩
            refine ⟨_, rfl, _, _, rfl, rfl, (show (0 : Int) < 2 by decide), p2, _, _, _, rfl, rfl, SqL.of hp2, hb, ?_⟩
            refine ⟨_, rfl, F11, d, s, ns, 6, rfl, R12.di, by decide, by decide, fun k H13 g0 g1 X13 D13 => ?_⟩
            have R13 := R12.draw X13 D13
            refine ⟨_, rfl, F11, d, s, ns, 9, rfl, R13.di, by decide, by decide, fun x9 H14 g2' g3' X14 D14 => ⟨_, _, rfl, rfl, ?_⟩⟩
            have R14 := R13.draw X14 D14
            refine ⟨by show 3 ≤ sizeLine; decide, fun t nt => ?_⟩
            have XL := (Ext.refl (M := M0) R14.same).lay (o := .tup [.str (wStr b), .int k, .int (x9 - 4)]) nt
            have R15 := R14.step XL
            have kw : kWhat.is (upd F11 t (.tup [.str (wStr b), .int k, .int (x9 - 4)])) (.ref t) (.chg b k (x9 - 4)) := ⟨t, rfl, upd_same⟩
            have ks15 := (kL kPt).mono XL.ff ks
            have ham15 := XL.ff _ _ ham10
            have pam15 := pr_mono (fun _ _ r => kDeed.mono XL.ff r) pam10
            have hS15 : upd H14 t (.tup [.str (wStr b), .int k, .int (x9 - 4)]) S = some (.lst vss) := same_upd nt _ _ (X14.hh _ _ (X13.hh _ _ hS12 dS.symm) dS.symm)
            clear XL
            revert R15 kw ks15 ham15 pam15 hS15
            generalize upd F11 t (.tup [.str (wStr b), .int k, .int (x9 - 4)]) = F15
            generalize upd H14 t (.tup [.str (wStr b), .int k, .int (x9 - 4)]) = H15
            intro R15 kw ks15 ham15 pam15 hS15
            have okw : WhatOk (.chg b k (x9 - 4)) := ⟨g0, by omega, by omega, by omega⟩
            have tw : TameN (.chg b k (x9 - 4)) := trivial
            generalize What.chg b k (x9 - 4) = w15 at kw okw tw
            generalize V.ref t = u15 at kw ⊢
            have vs15 : ∃ vss, H15 S = some (.lst vss) ∧ vss[m]? = some (V.ref am) ∧ Paired ((kL kDeed).is F15) vss dss := by
              obtain ⟨vss', e1, e2⟩ := R15.seen
              rw [hS15] at e1
              cases e1
              exact ⟨vss, hS15, hvm, e2⟩
            refine seq_join (JR K d s ns S E' F H dss es hs' i m o kind y8 D am xm dm ps) ?_ fun key => ?_
            · rintro _ H16 ⟨F16, u16, w16, y11, y12, y13, rfl, R16, ks16, ham16, pam16, vs16, kw16, ok16, tw16⟩
              refine seq_join (JR K d s ns S E' F H dss es hs' i m o kind y8 D am xm dm ps) ?_ fun key => ?_
              · rintro _ H16 ⟨F16, u16, w16, y11, y12, y13, rfl, R16, ks16, ham16, pam16, vs16, kw16, ok16, tw16⟩
                refine seq_join (JR K d s ns S E' F H dss es hs' i m o kind y8 D am xm dm ps) ?_ fun key => ?_
                · rintro _ H16 ⟨F16, u16, w16, y11, y12, y13, rfl, R16, ks16, ham16, pam16, vs16, kw16, ok16, tw16⟩
                  obtain ⟨evs, hE16, pE16⟩ := R16.ev
                  obtain ⟨vss', w1, w2, w3⟩ := vs16
                  have lE : evs.length ≤ 40 := by rw [pr_len pE16]; have := L5.cl; omega
                  refine ⟨_, rfl, E', rfl, ⟨_, SqL.of hE16⟩, fun D2 nD2 => ?_⟩
                  refine it_by (walk_list (K := K) (a := E') (xs := evs)) (fun i H' => ∃ (acc : List V), Ext M0 F16 H16 F16 H' ∧ H' D2 = some (.lst acc) ∧ acc.length = hcnt (m : Int) (es.take i))
                    ⟨[], (Ext.refl R16.same).tmp nD2, upd_same, rfl⟩ (fun i H' _ ⟨_, X, _⟩ => SqL.of (X.same _ _ hE16)) ?_ ?_
                  · rintro j x _ H17 hj ⟨acc, X17, hD, hacc⟩ ⟨rfl, hx⟩
                    obtain ⟨e, he, hev⟩ := pr_get pE16 hx
                    obtain ⟨ad, ud, rfl, had, hud⟩ := hev
                    have eT : es.take (j + 1) = es.take j ++ [e] := by rw [List.take_add_one, he]; rfl
                    have lacc : acc.length ≤ 40 := by
                      have h1 := hcnt_le (m : Int) (es.take j)
                      have h2 := List.length_take_le' j es
                      have := L5.cl
                      omega
                    refine ⟨rfl, _, rfl, ad, _, 0, .int e.h, rfl, rfl, SqT.of (X17.fh _ _ had), rfl, _, rfl, rfl, _, rfl, ?_⟩
                    by_cases z : e.h = (m : Int)
                    · rw [decide_eq_true (show V.int e.h = V.int m by rw [z])]
                      refine iteT ⟨_, rfl, acc, hD, by rw [sizeLine_eq]; omega, acc ++ [.ref ad], X17.put (.inl nD2) (R16.same.free nD2), upd_same, ?_⟩
                      rw [eT, hcnt_snoc, if_pos z, List.length_append, hacc]; rfl
                    · rw [decide_eq_false (show ¬ V.int e.h = V.int m from fun y => z (V.int.inj y))]
                      refine iteF ⟨acc, X17, hD, ?_⟩
                      rw [eT, hcnt_snoc, if_neg z, hacc]; rfl
                  rintro H17 ⟨acc, X17, hD, hacc⟩
                  rw [pr_len pE16, List.take_length] at hacc
                  have R17 := R16.step X17
                  refine ⟨_, _, rfl, .inl ⟨_, SqL.of hD, rfl⟩, _, _, rfl, rfl, ?_⟩
                  have hE17 := X17.same _ _ hE16
                  have hS17 := X17.same _ _ w1
                  -- the deed
                  refine ⟨_, rfl, _, rfl, by show 1 ≤ sizeLine; decide, fun q1 nq1 => ?_⟩
                  have X18 := (Ext.refl (M := M0) R17.same).tmp (o := .lst [.int 0]) nq1
                  have R18 := R17.step X18
                  have hq18 : upd H17 q1 (.lst [.int 0]) q1 = some (.lst [.int 0]) := upd_same
                  have hE18 := X18.same _ _ hE17
                  have hS18 := X18.same _ _ hS17
                  clear X18
                  revert R18 hq18 hE18 hS18
                  generalize upd H17 q1 (.lst [.int 0]) = H18
                  intro R18 hq18 hE18 hS18
                  refine ⟨_, rfl, _, rfl, S, vss', (m : Int), _, rfl, rfl, SqL.of hS18, atI_nat w2, am, rfl, ⟨_, SqL.of (R18.same _ _ ham16)⟩, fun D3 nD3 => ?_⟩
                  refine it_by (walk_list (K := K) (a := am) (xs := xm)) (fun i H' => ∃ (acc : List V), Ext M0 F16 H18 F16 H' ∧ H' D3 = some (.lst acc) ∧ acc = (dm.take i).map fun x => V.int x.t)
                    ⟨[], (Ext.refl R18.same).tmp nD3, upd_same, rfl⟩ (fun i H' _ ⟨_, X, _⟩ => SqL.of (X.fh _ _ ham16)) ?_ ?_
                  · rintro j x _ H19 hj ⟨acc3, X19, hD3, hacc3⟩ ⟨rfl, hx⟩
                    obtain ⟨e, he, hev⟩ := pr_get pam16 hx
                    obtain ⟨ad, ud, rfl, had, hud⟩ := hev
                    have eT : dm.take (j + 1) = dm.take j ++ [e] := by rw [List.take_add_one, he]; rfl
                    have lacc : acc3.length ≤ 40 := by
                      rw [hacc3, List.length_map]
                      have := List.length_take_le' j dm
                      omega
                    refine ⟨rfl, _, rfl, ad, _, 2, .int e.t, rfl, rfl, SqT.of (X19.fh _ _ had), rfl, acc3, hD3, by rw [sizeLine_eq]; omega, acc3 ++ [.int e.t], X19.put (.inl nD3) (R18.same.free nD3), upd_same, ?_⟩
                    rw [eT, List.map_append, hacc3]; rfl
                  rintro H19 ⟨acc3, X19, hD3, hacc3⟩
                  rw [lm, List.take_length] at hacc3
                  have R19 := R18.step X19
                  refine ⟨q1, D3, [.int 0], acc3, rfl, rfl, X19.same _ _ hq18, hD3, by rw [hacc3, List.length_map, sizeLine_eq]; show 1 + dm.length ≤ _; omega, fun p1 np1 => ?_⟩
                  have X20 := (Ext.refl (M := M0) R19.same).tmp (o := .lst ([.int 0] ++ acc3)) np1
                  have R20 := R19.step X20
                  have hE20 := X20.same _ _ (X19.same _ _ hE18)
                  have hS20 := X20.same _ _ (X19.same _ _ hS18)
                  have hp20 : upd H19 p1 (.lst ([.int 0] ++ acc3)) p1 = some (.lst ((0 :: dm.map fun x => x.t).map V.int)) := by
                    rw [upd_same, hacc3, List.map_cons, List.map_map]; rfl
                  clear X20
                  revert R20 hE20 hS20 hp20
                  generalize upd H19 p1 (.lst ([.int 0] ++ acc3)) = H20
                  intro R20 hE20 hS20 hp20
                  refine ⟨p1, 0 :: dm.map fun x => x.t, rfl, SqL.of hp20, by simp, fun mx hmx hle => ⟨_, _, rfl, rfl, _, rfl, by show 4 ≤ sizeLine; decide, fun t nt => ?_⟩⟩
                  have emx : mx = topT dm := by
                    have h1 : topT dm ≤ mx := by
                      rcases topT_or dm with e | ⟨x, hx, e⟩
                      · rw [e]; exact hle 0 (by simp)
                      · rw [← e]; exact hle _ (List.mem_cons_of_mem _ (List.mem_map.mpr ⟨x, hx, rfl⟩))
                    have h2 : mx ≤ topT dm := by
                      rcases List.mem_cons.mp hmx with e | h
                      · rw [e]; exact topT_nn dm
                      · obtain ⟨x, hx, rfl⟩ := List.mem_map.mp h
                        exact topT_ge hx
                    omega
                  subst emx
                  have hv : (fun i j => V.int (i + j)) (1 : Int) ((acc.length : Nat) : Int) = V.int (1 + hcnt (m : Int) es) := by rw [hacc]
                  have X21 := (Ext.refl (M := M0) R20.same).lay (o := .tup [.int m, (fun i j => V.int (i + j)) (1 : Int) ((acc.length : Nat) : Int), (fun i j => V.int (i + j)) 1 (topT dm), u16]) nt
                  have R21 := R20.step X21
                  have kx : kDeed.is (upd F16 t (.tup [.int m, (fun i j => V.int (i + j)) (1 : Int) ((acc.length : Nat) : Int), (fun i j => V.int (i + j)) 1 (topT dm), u16])) (.ref t) ⟨m, 1 + hcnt (m : Int) es, 1 + topT dm, w16⟩ := ⟨t, u16, rfl, by rw [upd_same, hv], kWhat.mono X21.ff kw16⟩
                  have hE21 := X21.same _ _ hE20
                  have hS21 := X21.same _ _ hS20
                  refine ⟨_, rfl, _, rfl, S, vss', (m : Int), _, rfl, rfl, SqL.of hS21, atI_nat w2, ?_⟩
                  refine ⟨_, rfl, by show 1 ≤ sizeLine; decide, fun q2 nq2 => ?_⟩
                  have X22 := (Ext.refl (M := M0) R21.same).tmp (o := .lst [.ref t]) nq2
                  have R22 := R21.step X22
                  refine ⟨am, q2, xm, [.ref t], rfl, rfl, R22.same _ _ (X21.ff _ _ ham16), upd_same, by rw [sizeLine_eq]; show xm.length + 1 ≤ _; omega, fun p3 np3 => ?_⟩
                  have X23 := (Ext.refl (M := M0) R22.same).lay (o := .lst (xm ++ [.ref t])) np3
                  have R23 := R22.step X23
                  have mA := X21.ff.trans X23.ff
                  have kx3 := kDeed.mono X23.ff kx
                  have hE23 := X23.same _ _ (X22.same _ _ hE21)
                  have hS23 := X23.same _ _ (X22.same _ _ hS21)
                  have kl := (⟨p3, xm ++ [.ref t], rfl, upd_same, pr_snoc (pr_mono (fun _ _ r => kDeed.mono mA r) pam16) kx3⟩ : (kL kDeed).is (upd (upd F16 t (.tup [.int m, (fun i j => V.int (i + j)) (1 : Int) ((acc.length : Nat) : Int), (fun i j => V.int (i + j)) 1 (topT dm), u16])) p3 (.lst (xm ++ [.ref t]))) (.ref p3) (dm ++ [⟨m, 1 + hcnt (m : Int) es, 1 + topT dm, w16⟩]))
                  have lv : vss'.length = dss.length := pr_len w3
                  refine ⟨_, rfl, _, rfl, S, vss', (m : Int), m, rfl, rfl, hS23, ixN_at (by omega), ?_⟩
                  have R24 := R23.setS (pr_set kl m (pr_mono (fun _ _ r => (kL kDeed).mono mA r) w3))
                  refine ⟨_, rfl, .inl ⟨rfl, _, SqL.of (by rw [upd_ne R23.SE.symm]; exact hE23)⟩, _, rfl, E', evs, _, rfl, rfl, by rw [upd_ne R23.SE.symm]; exact hE23, by rw [sizeLine_eq]; omega, _, _, es ++ [⟨m, 1 + hcnt (m : Int) es, 1 + topT dm, w16⟩], _, _, _, _, _, _, _, _, _, _, rfl, R24.setE (pr_snoc (pr_mono (fun _ _ r => kDeed.mono mA r) pE16) kx3), L5.add hm rfl rfl rfl (by omega) ok16 tw16⟩
                · -- kind == 5
                  refine ⟨_, rfl, rfl, _, rfl, ite2 (fun c5 => ?_) (fun c5 => ?_)⟩
                  · refine ⟨_, rfl, F16, d, s, ns, 3, rfl, R16.di, by decide, by decide, fun z H17 z0 z1 X17 D17 => ⟨rfl, _, rfl, ?_⟩⟩
                    have R17 := R16.draw X17 D17
                    obtain ⟨vss', w1, w2, w3⟩ := vs16
                    have hS17 := X17.hh _ _ w1 dS.symm
                    refine ite2 (fun c6 => ?_) (fun c6 => ?_)
                    · refine ⟨_, rfl, _, rfl, S, vss', (m : Int), _, rfl, rfl, SqL.of hS17, atI_nat w2, am, rfl, ⟨_, SqL.of (R17.same _ _ ham16)⟩, fun D2 nD2 => ?_⟩
                      refine it_by (walk_list (K := K) (a := am) (xs := xm)) (fun i H' => ∃ (F' : Hp) (acc : List V), Ext M0 F16 H17 F' H' ∧ H' D2 = some (.lst acc) ∧ F' D2 = none ∧ Paired (kPt.is F') acc ((dm.take i).map name))
                        ⟨F16, [], (Ext.refl R17.same).tmp nD2, upd_same, R17.same.free nD2, .nil⟩ (fun i H' _ ⟨_, _, X, _⟩ => SqL.of (X.fh _ _ (X.ff _ _ ham16))) ?_ ?_
                      · rintro j x _ H18 hj ⟨F18, acc, X18, hD, fD, hacc⟩ ⟨rfl, hx⟩
                        obtain ⟨e, he, hev⟩ := pr_get pam16 hx
                        obtain ⟨ad, ud, rfl, had, hud⟩ := kDeed.mono X18.ff hev
                        have eT : dm.take (j + 1) = dm.take j ++ [e] := by rw [List.take_add_one, he]; rfl
                        have lacc : acc.length ≤ 40 := by
                          rw [pr_len hacc, List.length_map]
                          have := List.length_take_le' j dm
                          omega
                        refine ⟨rfl, _, rfl, 2, rfl, ad, _, rfl, SqT.of (X18.fh _ _ had), (show ¬ (HT.sIx 4 0 none = 0 ∧ HT.sIx 4 4 (some 2) = 4) by decide), fun p np => ?_⟩
                        rw [show cutV [V.int e.h, V.int e.n, V.int e.t, ud] none (some 2) = [.int e.h, .int e.n] from rfl]
                        have Dp : D2 ≠ p := ne_of_none hD np
                        have sm := same_upd (o := .tup [.int e.h, .int e.n]) (X18.fh.free np)
                        refine ⟨acc, by rw [upd_ne Dp]; exact hD, by rw [sizeLine_eq]; omega, upd F18 p (.tup [.int e.h, .int e.n]), acc ++ [.ref p], (X18.lay np).put (.inl nD2) (by rw [upd_ne Dp]; exact fD), upd_same, by rw [upd_ne Dp]; exact fD, ?_⟩
                        rw [eT, List.map_append]
                        exact pr_snoc (pr_mono (fun _ _ r => kPt.mono sm r) hacc) ⟨p, rfl, upd_same⟩
                      · rintro H18 ⟨F18, acc, X18, hD, fD, hacc⟩
                        rw [lm, List.take_length] at hacc
                        have hacc' := pr_mono (fun _ _ r => kPt.mono X18.fh r) hacc
                        have bx : ∀ p ∈ dm.map name, 0 ≤ p.1 ∧ p.1 < 7 ∧ 1 ≤ p.2 ∧ p.2 ≤ LIM := fun p hp => by
                          obtain ⟨x, hx, rfl⟩ := List.mem_map.mp hp
                          have o := L5.ok x (Sm.sub x hx)
                          have := L5.hs x (Sm.sub x hx)
                          have := L5.few
                          exact ⟨o.h0, by show x.h < 7; omega, o.n1, Int.le_trans o.nt o.tl⟩
                        refine ⟨D2, acc, ptAt H18, rfl, SqL.of hD, fun x hx => ?_, fun ys p s1 s2 np => ?_⟩
                        · obtain ⟨q', _, hq'⟩ := pr_mem hacc' hx
                          rw [ptAt_is hq']
                          exact hq'
                        · obtain ⟨qs, hqs, pm, srt⟩ := sorted_pts2 hacc' Sm.nd s1 s2
                          have R18 := (R17.step X18).absb
                          have Xp := (Ext.refl (M := M0) R18.same).lay (o := .lst ys) np
                          have R19 := R18.step Xp
                          have fp : absb F18 H18 p = none := R18.same.free np
                          have kq : (kL kPt).is (upd (absb F18 H18) p (.lst ys)) (.ref p) qs := kL_new fp (pr_mono (fun v x ⟨t, e, h⟩ => ⟨t, e, absb_tup h⟩) hqs)
                          have lq : qs.length ≤ 40 := by rw [pm.length_eq, List.length_map]; exact fm
                          have mF : Same F16 (upd (absb F18 H18) p (.lst ys)) := (X18.ff.trans (absb_sub X18.fh)).trans Xp.ff
                          have hS19 : upd H18 p (.lst ys) S = some (.lst vss') := same_upd np _ _ (X18.same _ _ hS17)
                          revert R19 kq mF hS19
                          generalize upd (absb F18 H18) p (.lst ys) = F19
                          generalize upd H18 p (.lst ys) = H19
                          intro R19 kq mF hS19
                          refine ⟨F19, .ref p, qs, rfl, R19.same, kq, srt, by omega, ?_⟩
                          intro F20 H20 c zs out X20 nc fc hc pc tl
                          have R20 := R19.step X20
                          refine ⟨c, zs, rfl, .inl ⟨SqL.of hc, fun l nl => ?_⟩⟩
                          have X21 := (Ext.refl (M := M0) R20.same).lay (o := .tup zs) nl
                          have R21 := R20.step X21
                          have kt : (kT kRow).is (upd F20 l (.tup zs)) (.ref l) out := ⟨l, zs, rfl, upd_same, pr_mono (fun _ _ r => kRow.mono X21.ff r) pc⟩
                          refine ⟨by show 2 ≤ sizeLine; decide, fun t nt => ?_⟩
                          have X22 := (Ext.refl (M := M0) R21.same).lay (o := .tup [.str "seal", .ref l]) nt
                          have mA := ((mF.trans X20.ff).trans X21.ff).trans X22.ff
                          exact key _ _ ⟨_, .ref t, .shut out, _, _, _, rfl, R21.step X22, (kL kPt).mono mA ks16, mA _ _ ham16, pr_mono (fun _ _ r => kDeed.mono mA r) pam16, ⟨vss', X22.same _ _ (X21.same _ _ (X20.same _ _ hS19)), w2, pr_mono (fun _ _ r => (kL kDeed).mono mA r) w3⟩, ⟨t, .ref l, rfl, upd_same, (kT kRow).mono X22.ff kt⟩, seen_ok bx pm (by rw [List.length_map]; exact fm) tl, told_tame tl fun p hp => (bx p (pm.mem_iff.mp hp)).2.1⟩
                    · exact key _ _ ⟨F16, u16, w16, _, _, _, rfl, R17, ks16, ham16, pam16, ⟨vss', hS17, w2, w3⟩, kw16, ok16, tw16⟩
                  · exact key _ _ ⟨F16, u16, w16, _, _, _, rfl, R16, ks16, ham16, pam16, vs16, kw16, ok16, tw16⟩
              · -- kind == 4
                obtain ⟨_, zs, eD, hD16, pD16⟩ := ks16
                cases eD
                have lz := pr_len pD16
                refine ⟨_, rfl, rfl, _, rfl, ite2 (fun c4 => ?_) (fun c4 => ?_)⟩
                · refine ⟨_, rfl, Nat.zero_le _, fun q1 nq1 => ?_⟩
                  have X17 := (Ext.refl (M := M0) R16.same).tmp (o := .lst []) nq1
                  have R17 := R16.step X17
                  have hs17 : ∀ {b : Addr} {o : HO}, H16 b = some o → upd H16 q1 (.lst []) b = some o := fun {b o} h => X17.same _ _ h
                  refine ⟨D, q1, zs, rfl, rfl, SqL.of (X17.fh _ _ hD16), SqL.of upd_same, ?_⟩
                  by_cases em : zs = []
                  · have e1 : (!zs.isEmpty) = false := by rw [em]; rfl
                    rw [e1]
                    refine ⟨_, rfl, iteF ?_⟩
                    obtain ⟨vss', w1, w2, w3⟩ := vs16
                    exact key _ _ ⟨F16, u16, w16, _, _, _, rfl, R17, ⟨D, zs, rfl, hD16, pD16⟩, ham16, pam16, ⟨vss', hs17 w1, w2, w3⟩, kw16, ok16, tw16⟩
                  · have e1 : (!zs.isEmpty) = true := by cases zs with
                      | nil => exact absurd rfl em
                      | cons a b => rfl
                    rw [e1]
                    refine ⟨_, rfl, iteT ?_⟩
                    obtain ⟨vss', w1, w2, w3⟩ := vs16
                    have hS17 := hs17 w1
                    clear hs17
                    revert R17 hS17
                    generalize upd H16 q1 (.lst []) = H17
                    intro R17 hS17
                    refine ⟨by show 1 ≤ sizeLine; decide, fun p1 np1 => ?_⟩
                    have dp1 := R17.di.ne np1
                    have R18 := R17.step ((Ext.refl R17.same).tmp (o := .tup [.str "back"]) np1)
                    have hp1 : upd H17 p1 (.tup [.str "back"]) p1 = some (.tup [.str "back"]) := upd_same
                    have hS18 : upd H17 p1 (.tup [.str "back"]) S = some (.lst vss') := same_upd np1 _ _ hS17
                    revert R18 hp1 hS18
                    generalize upd H17 p1 (.tup [.str "back"]) = H18
                    intro R18 hp1 hS18
                    have pos : 0 < zs.length := List.length_pos_iff.mpr em
                    refine ⟨_, rfl, _, rfl, _, _, rfl, .inl ⟨_, SqL.of (R18.same _ _ hD16), rfl⟩, _, _, rfl, rfl, _, rfl, F16, d, s, ns, 5, rfl, R18.di, by decide, by decide, fun z H19 z0 z1 X19 D19 => ⟨_, _, rfl, rfl, _, _, rfl, ?_⟩⟩
                    have R19 := R18.draw X19 D19
                    obtain ⟨j, hj, ej⟩ : ∃ j : Nat, j < zs.length ∧ (if (zs.length : Int) - 1 - z > 0 then (zs.length : Int) - 1 - z else 0) = (j : Int) := by
                      by_cases c : (zs.length : Int) - 1 - z > 0
                      · exact ⟨((zs.length : Int) - 1 - z).toNat, by omega, by rw [if_pos c]; omega⟩
                      · exact ⟨0, pos, by rw [if_neg c]; rfl⟩
                    obtain ⟨q', hq', tq, etq, htq⟩ := pr_get pD16 (List.getElem?_eq_getElem hj)
                    refine ⟨D, zs, (j : Int), zs[j], rfl, congrArg V.int ej, SqL.of (R19.same _ _ hD16), atI_nat (List.getElem?_eq_getElem hj), ?_⟩
                    rw [etq]
                    refine ⟨p1, tq, _, _, rfl, rfl, SqT.of (X19.hh _ _ hp1 dp1.symm), SqT.of (R19.same _ _ htq), by simp, by show 1 + 2 ≤ sizeLine; decide, fun e => absurd e (by simp), fun _ pn npn => ?_⟩
                    have XL := (Ext.refl (M := M0) R19.same).lay (o := .tup ([V.str "back"] ++ [.int q'.1, .int q'.2])) npn
                    have b5 := sub5 q' (List.mem_of_getElem? hq')
                    exact key _ _ ⟨_, .ref pn, .back q'.1 q'.2, _, _, _, rfl, R19.step XL, (kL kPt).mono XL.ff ⟨D, zs, rfl, hD16, pD16⟩, XL.ff _ _ ham16, pr_mono (fun _ _ r => kDeed.mono XL.ff r) pam16, ⟨vss', XL.same _ _ (X19.hh _ _ hS18 dS.symm), w2, pr_mono (fun _ _ r => (kL kDeed).mono XL.ff r) w3⟩, ⟨pn, rfl, upd_same⟩, ⟨b5.1, by omega, b5.2.2.1, b5.2.2.2⟩, b5.2.1⟩
                · exact key _ _ ⟨F16, u16, w16, _, _, _, rfl, R16, ⟨D, zs, rfl, hD16, pD16⟩, ham16, pam16, vs16, kw16, ok16, tw16⟩
            · exact key _ _ ⟨F15, u15, w15, _, _, _, rfl, R15, ks15, ham15, pam15, vs15, kw, okw, tw⟩
      · rintro σ H5 ⟨F5, dss, es, y4, y5, y6, y7, y8, y9, y10, y11, y12, y13, rfl, R5, L5⟩
        obtain ⟨evs, hE5, pE5⟩ := R5.ev
        have cl := L5.cl
        exact ⟨_, rfl, q (upd F5 E' (.lst evs)) H5 (.ref E') es (R5.xd.frz R5.nE R5.fE hE5) (R5.di.fzX R5.dE R5.fE hE5) (kL_new R5.fE pE5) ⟨⟨L5.ok, fun x hx => ⟨by have := L5.hs x hx; have := L5.few; omega, (L5.tame x hx).tame, by have := L5.tm x hx; omega⟩, uniq_of L5.uniq, by omega⟩, fun x hx => (L5.tame x hx).nb⟩⟩
end
end Rw
namespace Rw
open PySem L2
/-! ### one more deed, behind all -/
structure Last (ds : List Deed) (e : Deed) : Prop where
  tm : ∀ d ∈ ds, d.t < e.t
  tame : ∀ d ∈ ds, TameD d
  h : e.h = 7
  n : e.n = 1
  w : ∃ b k x, e.w = .chg b k x
theorem Last.nm71 {ds : List Deed} {e : Deed} (h : Last ds e) : name e = (7, 1) := Prod.ext h.h h.n
theorem Last.line {ds line : List Deed} {e : Deed} (h : Last ds e) (l : LineOf ds line) : LineOf (ds ++ [e]) (line ++ [e]) := by
  refine ⟨List.pairwise_append.mpr ⟨l.ord, by simp, fun a ha b hb => ?_⟩, fun d => ?_⟩
  · rw [List.mem_singleton.mp hb]
    exact .inl (h.tm a ((l.mem a).mp ha))
  · rw [List.mem_append, List.mem_append, l.mem]
theorem Last.off {line : List Deed} {e d : Deed} (h : Last line e) (hd : d ∈ line) {p : Pt} (ht : tgt d.w = some p) : name e ≠ p := by
  have t := (h.tame d hd).2.1
  rw [h.nm71]
  intro z
  subst z
  cases hw : d.w with
  | back g n =>
    rw [hw] at t ht
    have : ((g, n) : Pt) = (7, 1) := Option.some.inj ht
    have e1 : g = 7 := congrArg Prod.fst this
    have t' : g < 7 := t
    omega
  | chg b k x => rw [hw] at ht; cases ht
  | shut r => rw [hw] at ht; cases ht
  | bye => rw [hw] at ht; cases ht
theorem Last.tg {line : List Deed} {e : Deed} (h : Last line e) : Rw.tgt e.w = none := by
  obtain ⟨b, k, x, hw⟩ := h.w
  rw [hw]; rfl
theorem Last.vb {line : List Deed} {e d : Deed} (h : Last line e) (hd : d ∈ line) : Rw.voidB (line ++ [e]) [] d = Rw.voidB line [] d := by
  unfold Rw.voidB
  cases ht : Rw.tgt d.w with
  | none => rfl
  | some p =>
    show voidP (line ++ [e]) [] d p = voidP line [] d p
    have z1 : sLtB e d = false := by
      cases q : sLtB e d with
      | false => rfl
      | true =>
        have a := sLtB_iff.mp q
        have b := h.tm d hd
        unfold sLt at a
        omega
    have z2 : decide (Rw.name e = p) = false := decide_eq_false (h.off hd ht)
    unfold voidP
    simp only [List.any_append, List.any_cons, List.any_nil, z1, z2, Bool.false_and, Bool.or_false]
theorem Last.voids {line : List Deed} {e : Deed} (h : Last line e) : voidsOf (line ++ [e]) [] = voidsOf line [] := by
  unfold voidsOf
  have a : line.filter (Rw.voidB (line ++ [e]) []) = line.filter (Rw.voidB line []) := List.filter_congr fun d hd => h.vb hd
  have b : Rw.voidB (line ++ [e]) [] e = false := by unfold Rw.voidB; rw [h.tg]
  rw [List.filter_append, a, List.filter_cons_of_neg (by simp [b]), List.filter_nil, List.append_nil]
theorem takenL_snoc {V : List Pt} {e : Deed} (he : tgt e.w = none) : ∀ l : List Deed, takenL V (l ++ [e]) = takenL V l
  | [] => by
    show takenL V [e] = []
    unfold takenL
    rw [he]
    rfl
  | d :: l => by
    rw [List.cons_append]
    unfold takenL
    rw [takenL_snoc he l]
theorem Last.taken {line : List Deed} {e : Deed} (h : Last line e) : takenOf (line ++ [e]) [] = takenOf line [] := by
  unfold takenOf
  rw [h.voids, takenL_snoc h.tg]
theorem Last.stand {line : List Deed} {e : Deed} (h : Last line e) : standOf (line ++ [e]) [] = standOf line [] ++ [e] := by
  have a : standB (line ++ [e]) [] = standB line [] := by
    funext d
    unfold standB
    rw [h.taken]
  have b : standB line [] e = true := by
    unfold standB
    have : name e ∉ takenOf line [] := fun z => by
      obtain ⟨d, hd, ht⟩ := takenL_mem z
      exact h.off hd ht rfl
    rw [decide_eq_false this]
    simp
  unfold standOf
  rw [a, List.filter_append, List.filter_cons_of_pos b]
  rfl
theorem Last.worths {line : List Deed} {e : Deed} (h : Last line e) (b : List Int) : worthsOf b (line ++ [e]) [] = worthStep (worthsOf b line []) e := by
  unfold worthsOf
  rw [h.stand, List.foldl_append]
  rfl
/-! ### of one key alone -/
def keyB (k : Int) (d : Deed) : Bool := match d.w with
  | .chg _ j _ => decide (j = k)
  | _ => true
theorem tgt_key {k : Int} {d : Deed} {p : Pt} (h : tgt d.w = some p) : keyB k d = true := by
  unfold keyB
  cases hw : d.w with
  | chg b j x => rw [hw] at h; cases h
  | _ => rfl
theorem has_key {k : Int} {d : Deed} {p : Pt} (h : has d p = true) : keyB k d = true := by
  unfold keyB
  cases hw : d.w with
  | chg b j x => unfold has at h; rw [hw] at h; cases h
  | _ => rfl
theorem Line.filter {line : List Deed} (L : Line line) (f : Deed → Bool) : Line (line.filter f) :=
  ⟨L.ord.sublist List.filter_sublist, fun a ha b hb => L.uq a (List.mem_filter.mp ha).1 b (List.mem_filter.mp hb).1, fun d hd => L.ok d (List.mem_filter.mp hd).1, Nat.le_trans (List.length_filter_le ..) L.few⟩
theorem key_void {k : Int} {line : List Deed} (L : Line line) {d : Deed} {p : Pt} (hp : p ∈ (line.filter (keyB k)).map name) : voidP (line.filter (keyB k)) [] d p = voidP line [] d p := by
  obtain ⟨m, hm, rfl⟩ := List.mem_map.mp hp
  have hm' := List.mem_filter.mp hm
  have e1 : (line.filter (keyB k)).any (fun s => sLtB s d && has s (name m)) = line.any (fun s => sLtB s d && has s (name m)) := by
    rw [Bool.eq_iff_iff, List.any_eq_true, List.any_eq_true]
    constructor
    · rintro ⟨s, hs, z⟩
      exact ⟨s, (List.mem_filter.mp hs).1, z⟩
    · rintro ⟨s, hs, z⟩
      exact ⟨s, List.mem_filter.mpr ⟨hs, has_key (Bool.and_eq_true_iff.mp z).2⟩, z⟩
  have e2 : (line.filter (keyB k)).any (fun e => decide (name e = name m) && !sLtB e d) = line.any (fun e => decide (name e = name m) && !sLtB e d) := by
    rw [Bool.eq_iff_iff, List.any_eq_true, List.any_eq_true]
    constructor
    · rintro ⟨s, hs, z⟩
      exact ⟨s, (List.mem_filter.mp hs).1, z⟩
    · rintro ⟨s, hs, z⟩
      have q : name s = name m := of_decide_eq_true (Bool.and_eq_true_iff.mp z).1
      have := L.uq s hs m hm'.1 q
      exact ⟨s, by rw [this]; exact hm, z⟩
  unfold voidP
  rw [e1, e2]
theorem voids_mem {line : List Deed} (L : Line line) {d : Deed} (hd : d ∈ line) : name d ∈ voidsOf line [] ↔ voidB line [] d = true := by
  unfold voidsOf
  constructor
  · intro z
    obtain ⟨e, he, q⟩ := List.mem_map.mp z
    obtain ⟨h1, h2⟩ := List.mem_filter.mp he
    rw [← L.uq e h1 d hd q]; exact h2
  · intro z
    exact List.mem_map.mpr ⟨d, List.mem_filter.mpr ⟨hd, z⟩, rfl⟩
theorem key_taken {k : Int} {line : List Deed} (L : Line line) : ∀ (l : List Deed), (∀ d ∈ l, d ∈ line) → ∀ p ∈ (line.filter (keyB k)).map name, (p ∈ takenL (voidsOf (line.filter (keyB k)) []) (l.filter (keyB k)) ↔ p ∈ takenL (voidsOf line []) l)
  | [], _, p, _ => by simp [takenL]
  | d :: l, hl, p, hp => by
    have ih := key_taken (k := k) L l fun e he => hl e (List.mem_cons_of_mem _ he)
    have hd := hl d List.mem_cons_self
    cases ht : tgt d.w with
    | none =>
      have e1 : takenL (voidsOf line []) (d :: l) = takenL (voidsOf line []) l := by
        conv => lhs; unfold takenL
        rw [ht]
      rw [e1]
      by_cases c : keyB k d = true
      · rw [List.filter_cons_of_pos c]
        have e2 : takenL (voidsOf (line.filter (keyB k)) []) (d :: l.filter (keyB k)) = takenL (voidsOf (line.filter (keyB k)) []) (l.filter (keyB k)) := by
          conv => lhs; unfold takenL
          rw [ht]
        rw [e2]; exact ih p hp
      · rw [List.filter_cons_of_neg c]; exact ih p hp
    | some q =>
      have c := tgt_key (k := k) ht
      have dm : d ∈ line.filter (keyB k) := List.mem_filter.mpr ⟨hd, c⟩
      have nm : name d ∈ (line.filter (keyB k)).map name := List.mem_map.mpr ⟨d, dm, rfl⟩
      rw [List.filter_cons_of_pos c]
      unfold takenL
      rw [ht]
      dsimp only
      have i1 := ih (name d) nm
      by_cases m : q ∈ (line.filter (keyB k)).map name
      · have v : (name d ∈ voidsOf (line.filter (keyB k)) [] ↔ name d ∈ voidsOf line []) := by
          rw [voids_mem (L.filter _) dm, voids_mem L hd]
          unfold voidB
          rw [ht]
          dsimp only
          rw [key_void L m]
        by_cases g : name d ∉ voidsOf line [] ∧ name d ∉ takenL (voidsOf line []) l
        · rw [if_pos g, if_pos ⟨fun z => g.1 (v.mp z), fun z => g.2 (i1.mp z)⟩, List.mem_cons, List.mem_cons, ih p hp]
        · rw [if_neg g, if_neg fun z => g ⟨fun y => z.1 (v.mpr y), fun y => z.2 (i1.mpr y)⟩]; exact ih p hp
      · have pq : p ≠ q := fun z => m (z ▸ hp)
        have drop : ∀ (C : Prop) [Decidable C] (T : List Pt), (p ∈ if C then q :: T else T) ↔ p ∈ T := fun C _ T => by
          split
          · rw [List.mem_cons]; exact ⟨fun z => z.resolve_left pq, .inr⟩
          · exact Iff.rfl
        rw [drop, drop]; exact ih p hp
theorem key_stand {k : Int} {line : List Deed} (L : Line line) : standOf (line.filter (keyB k)) [] = (standOf line []).filter (keyB k) := by
  unfold standOf
  rw [List.filter_filter, List.filter_filter]
  refine List.filter_congr fun d hd => ?_
  by_cases c : keyB k d = true
  · have dm : d ∈ line.filter (keyB k) := List.mem_filter.mpr ⟨hd, c⟩
    have t := key_taken (k := k) L line (fun _ h => h) (name d) (List.mem_map.mpr ⟨d, dm, rfl⟩)
    have s : standB (line.filter (keyB k)) [] d = standB line [] d := by
      unfold standB takenOf
      rw [decide_eq_decide.mpr t]
    rw [s, Bool.and_comm]
  · rw [Bool.not_eq_true] at c
    simp [c]
theorem step_len (b : List Int) (d : Deed) : (worthStep b d).length = b.length := by
  unfold worthStep
  split <;> simp
theorem fold_len (b : List Int) : ∀ l : List Deed, (l.foldl worthStep b).length = b.length := by
  intro l
  induction l generalizing b with
  | nil => rfl
  | cons d l ih => rw [List.foldl_cons, ih, step_len]
theorem key_fold {k : Int} (hk : 0 ≤ k) : ∀ (l : List Deed) (b c : List Int), (∀ d ∈ l, DeedOk d) → b.length = c.length → b[k.toNat]? = c[k.toNat]? → ((l.filter (keyB k)).foldl worthStep b)[k.toNat]? = (l.foldl worthStep c)[k.toNat]?
  | [], _, _, _, _, h => h
  | d :: l, b, c, ok, hl, h => by
    have ok' := fun e he => ok e (List.mem_cons_of_mem _ he)
    have od := (ok d List.mem_cons_self).w
    by_cases g : keyB k d = true
    · rw [List.filter_cons_of_pos g, List.foldl_cons, List.foldl_cons]
      refine key_fold hk l _ _ ok' (by rw [step_len, step_len, hl]) ?_
      unfold keyB at g
      unfold worthStep
      cases hw : d.w with
      | chg add j x =>
        rw [hw] at g
        have e := of_decide_eq_true g
        subst e
        cases add with
        | false =>
          dsimp only
          rw [List.getElem?_set, List.getElem?_set, if_pos rfl, if_pos rfl, hl]
        | true =>
          dsimp only
          have gd : b.getD j.toNat 0 = c.getD j.toNat 0 := by rw [List.getD_eq_getElem?_getD, List.getD_eq_getElem?_getD, h]
          rw [List.getElem?_set, List.getElem?_set, if_pos rfl, if_pos rfl, hl, gd]
      | back _ _ => exact h
      | shut _ => exact h
      | bye => exact h
    · rw [List.filter_cons_of_neg g, List.foldl_cons]
      refine key_fold hk l _ _ ok' (by rw [step_len, hl]) ?_
      unfold keyB at g
      unfold worthStep
      cases hw : d.w with
      | chg add j x =>
        rw [hw] at g od
        have ne : j ≠ k := fun e => g (decide_eq_true e)
        have j0 : 0 ≤ j := od.1
        have ne' : j.toNat ≠ k.toNat := by omega
        cases add with
        | false =>
          dsimp only
          rw [List.getElem?_set, if_neg ne']; exact h
        | true =>
          dsimp only
          rw [List.getElem?_set, if_neg ne']; exact h
      | back _ _ => rw [hw] at g; exact absurd rfl g
      | shut _ => rw [hw] at g; exact absurd rfl g
      | bye => rw [hw] at g; exact absurd rfl g
theorem key_worths {k : Int} (hk : 0 ≤ k) {line : List Deed} (L : Line line) (b : List Int) : (worthsOf b (line.filter (keyB k)) [])[k.toNat]? = (worthsOf b line [])[k.toNat]? := by
  unfold worthsOf
  rw [key_stand L]
  exact key_fold hk _ _ _ (fun d hd => L.ok d (List.mem_filter.mp hd).1) rfl rfl
theorem key_line {k : Int} {ds line : List Deed} (l : LineOf ds line) : LineOf (ds.filter (keyB k)) (line.filter (keyB k)) :=
  ⟨l.ord.sublist List.filter_sublist, fun d => by rw [List.mem_filter, List.mem_filter, l.mem]⟩
theorem same_line {ds es l1 l2 : List Deed} (m : ∀ d, d ∈ es ↔ d ∈ ds) (h1 : LineOf ds l1) (h2 : LineOf es l2) : l2 = l1 :=
  LineOf.uniq (ds := ds) ⟨h2.ord, fun d => (h2.mem d).trans (m d)⟩ h1
end Rw
namespace Rw
open PySem L2
/-! ### deeds behind all others, of the house 7 -/
theorem tgt_back {w : What} {p : Pt} (h : tgt w = some p) : w = .back p.1 p.2 := by
  cases w with
  | back g n =>
    have : ((g, n) : Pt) = p := Option.some.inj h
    rw [← this]
  | chg b k x => cases h
  | shut r => cases h
  | bye => cases h
structure Tail (line tl : List Deed) : Prop where
  tm : ∀ d ∈ line, ∀ e ∈ tl, d.t < e.t
  h7 : ∀ e ∈ tl, e.h = 7
  tame : ∀ d ∈ line, TameD d
theorem Tail.off {line tl : List Deed} (h : Tail line tl) {d e : Deed} (hd : d ∈ line) (he : e ∈ tl) {p : Pt} (ht : tgt d.w = some p) : name e ≠ p := by
  have t := (h.tame d hd).2.1
  rw [tgt_back ht] at t
  have t' : p.1 < 7 := t
  intro z
  have : e.h = p.1 := congrArg Prod.fst z
  rw [h.h7 e he] at this
  omega
theorem Tail.name {line tl : List Deed} (h : Tail line tl) {d e : Deed} (hd : d ∈ line) (he : e ∈ tl) : Rw.name e ≠ Rw.name d := fun z => by
  have h1 := (h.tame d hd).1
  have : e.h = d.h := congrArg Prod.fst z
  rw [h.h7 e he] at this
  omega
theorem Tail.late {line tl : List Deed} (h : Tail line tl) {d e : Deed} (hd : d ∈ line) (he : e ∈ tl) : sLtB e d = false ∧ sLtB d e = true := by
  have b := h.tm d hd e he
  refine ⟨?_, sLtB_iff.mpr (.inl b)⟩
  cases q : sLtB e d with
  | false => rfl
  | true =>
    have a := sLtB_iff.mp q
    unfold sLt at a
    omega
theorem Tail.vb {line tl : List Deed} (h : Tail line tl) {d : Deed} (hd : d ∈ line) : voidB (line ++ tl) [] d = voidB line [] d := by
  unfold voidB
  cases ht : tgt d.w with
  | none => rfl
  | some p =>
    show voidP (line ++ tl) [] d p = voidP line [] d p
    have z1 : tl.any (fun s => sLtB s d && has s p) = false := by
      rw [List.any_eq_false]
      intro e he
      rw [(h.late hd he).1]
      simp
    have z2 : tl.any (fun e => decide (Rw.name e = p) && !sLtB e d) = false := by
      rw [List.any_eq_false]
      intro e he
      rw [decide_eq_false (h.off hd he ht)]
      simp
    unfold voidP
    rw [List.any_append, List.any_append, z1, z2, Bool.or_false, Bool.or_false]
theorem Tail.voids {line tl : List Deed} (h : Tail line tl) : voidsOf (line ++ tl) [] = voidsOf line [] ++ (tl.filter (voidB (line ++ tl) [])).map Rw.name := by
  unfold voidsOf
  have a : line.filter (voidB (line ++ tl) []) = line.filter (voidB line []) := List.filter_congr fun d hd => h.vb hd
  rw [List.filter_append, a, List.map_append]
/-- what is taken hangs on the names alone that stand in the line -/
theorem taken_off {V W : List Pt} : ∀ {l : List Deed}, (∀ d ∈ l, name d ∈ V ↔ name d ∈ W) → takenL V l = takenL W l
  | [], _ => rfl
  | d :: l, h => by
    have ih := taken_off (V := V) (W := W) (l := l) fun e he => h e (List.mem_cons_of_mem _ he)
    have hd := h d List.mem_cons_self
    unfold takenL
    rw [ih]
    cases tgt d.w with
    | none => rfl
    | some p =>
      dsimp only
      by_cases c : name d ∉ V ∧ name d ∉ takenL W l
      · rw [if_pos c, if_pos ⟨fun z => c.1 (hd.mpr z), c.2⟩]
      · rw [if_neg c, if_neg fun z => c ⟨fun y => z.1 (hd.mp y), z.2⟩]
/-- behind, only names of the house 7 are taken: nothing changes ahead -/
theorem taken_tail {V : List Pt} {X : List Pt} : ∀ {l tl : List Deed}, takenL V tl = X → (∀ d ∈ l, name d ∉ X) → takenL V (l ++ tl) = takenL V l ++ X
  | [], tl, e, _ => by rw [List.nil_append, e]; rfl
  | d :: l, tl, e, h => by
    have ih := taken_tail (V := V) (X := X) (l := l) (tl := tl) e fun g hg => h g (List.mem_cons_of_mem _ hg)
    have hd := h d List.mem_cons_self
    rw [List.cons_append]
    unfold takenL
    rw [ih]
    cases tgt d.w with
    | none => rfl
    | some p =>
      dsimp only
      by_cases c : name d ∉ V ∧ name d ∉ takenL V l
      · rw [if_pos c, if_pos ⟨c.1, fun z => (List.mem_append.mp z).elim c.2 hd⟩]; rfl
      · rw [if_neg c, if_neg fun z => c ⟨z.1, fun y => z.2 (List.mem_append_left _ y)⟩]
/-- behind all, nothing is taken but of the house 7: worths are those ahead -/
theorem Tail.same {line tl : List Deed} (h : Tail line tl) {X : List Pt} (hx : takenL (voidsOf (line ++ tl) []) tl = X) (h7 : ∀ p ∈ X, p.1 = 7) : standOf (line ++ tl) [] = standOf line [] ++ tl.filter (standB (line ++ tl) []) ∧ takenOf (line ++ tl) [] = takenOf line [] ++ X := by
  have v : ∀ d ∈ line, (Rw.name d ∈ voidsOf (line ++ tl) [] ↔ Rw.name d ∈ voidsOf line []) := fun d hd => by
    rw [h.voids, List.mem_append]
    refine ⟨fun z => z.elim id fun z => ?_, .inl⟩
    obtain ⟨e, he, q⟩ := List.mem_map.mp z
    exact absurd q (h.name hd (List.mem_filter.mp he).1)
  have offX : ∀ d ∈ line, Rw.name d ∉ X := fun d hd z => by
    have := (h.tame d hd).1
    have q : d.h = 7 := h7 _ z
    omega
  have t : takenOf (line ++ tl) [] = takenOf line [] ++ X := by
    unfold takenOf
    rw [taken_tail hx offX, taken_off v]
  refine ⟨?_, t⟩
  unfold standOf
  rw [List.filter_append]
  refine congrArg (· ++ _) (List.filter_congr fun d hd => ?_)
  unfold standB
  rw [t]
  congr 2
  refine decide_eq_decide.mpr ?_
  rw [List.mem_append]
  exact ⟨fun z => z.elim id fun z => absurd z (offX d hd), .inl⟩
theorem step_none {b : List Int} {d : Deed} (h : ∀ c k x, d.w ≠ .chg c k x) : worthStep b d = b := by
  unfold worthStep
  cases hw : d.w with
  | chg c k x => exact absurd hw (h c k x)
  | _ => rfl
theorem fold_none {b : List Int} : ∀ {l : List Deed}, (∀ d ∈ l, ∀ c k x, d.w ≠ .chg c k x) → l.foldl worthStep b = b
  | [], _ => rfl
  | d :: l, h => by rw [List.foldl_cons, step_none (h d List.mem_cons_self), fold_none fun e he => h e (List.mem_cons_of_mem _ he)]
theorem Tail.worths {line tl : List Deed} (h : Tail line tl) {X : List Pt} (hx : takenL (voidsOf (line ++ tl) []) tl = X) (h7 : ∀ p ∈ X, p.1 = 7) (nc : ∀ d ∈ tl, ∀ c k x, d.w ≠ .chg c k x) (b : List Int) : worthsOf b (line ++ tl) [] = worthsOf b line [] := by
  unfold worthsOf
  rw [(h.same hx h7).1, List.foldl_append]
  exact fold_none fun d hd => nc d (List.mem_filter.mp hd).1
/-! ### one is taken back by the last -/
def butOne (one : Deed) (d : Deed) : Bool := !decide (d = one)
theorem taken_more {V : List Pt} {p : Pt} : ∀ {l m : List Deed}, p ∈ takenL V m → p ∈ takenL V (l ++ m)
  | [], _, h => h
  | d :: l, m, h => by
    have ih := taken_more (V := V) (l := l) h
    rw [List.cons_append]
    unfold takenL
    cases tgt d.w with
    | none => exact ih
    | some q =>
      dsimp only
      split
      · exact List.mem_cons_of_mem _ ih
      · exact ih
theorem Tail.mem_voids {line tl : List Deed} (h : Tail line tl) (L : Line line) {d : Deed} (hd : d ∈ line) : Rw.name d ∈ voidsOf (line ++ tl) [] ↔ voidB line [] d = true := by
  rw [h.voids, List.mem_append, ← voids_mem L hd]
  refine ⟨fun z => z.elim id fun z => ?_, .inl⟩
  obtain ⟨e, he, q⟩ := List.mem_map.mp z
  exact absurd q (h.name hd (List.mem_filter.mp he).1)
theorem back_last {V : List Pt} {B : Deed} {p : Pt} (hB : tgt B.w = some p) (nv : name B ∉ V) : takenL V [B] = [p] := by
  unfold takenL
  rw [hB]
  dsimp only
  rw [if_pos ⟨nv, by simp [takenL]⟩]
  rfl
theorem one_void {line : List Deed} {one d : Deed} {q : Pt} (ns : ∀ p, has one p = false) (nq : name one ≠ q) : voidP (line.filter (butOne one)) [] d q = voidP line [] d q := by
  have e1 : (line.filter (butOne one)).any (fun s => sLtB s d && has s q) = line.any (fun s => sLtB s d && has s q) := by
    rw [Bool.eq_iff_iff, List.any_eq_true, List.any_eq_true]
    constructor
    · rintro ⟨s, hs, z⟩
      exact ⟨s, (List.mem_filter.mp hs).1, z⟩
    · rintro ⟨s, hs, z⟩
      refine ⟨s, List.mem_filter.mpr ⟨hs, ?_⟩, z⟩
      unfold butOne
      rw [decide_eq_false fun e => ?_]
      · rfl
      · rw [e, ns q] at z
        simp at z
  have e2 : (line.filter (butOne one)).any (fun e => decide (name e = q) && !sLtB e d) = line.any (fun e => decide (name e = q) && !sLtB e d) := by
    rw [Bool.eq_iff_iff, List.any_eq_true, List.any_eq_true]
    constructor
    · rintro ⟨s, hs, z⟩
      exact ⟨s, (List.mem_filter.mp hs).1, z⟩
    · rintro ⟨s, hs, z⟩
      refine ⟨s, List.mem_filter.mpr ⟨hs, ?_⟩, z⟩
      unfold butOne
      rw [decide_eq_false fun e => ?_]
      · rfl
      · rw [e, decide_eq_false nq] at z
        simp at z
  unfold voidP
  rw [e1, e2]
theorem back_taken {line : List Deed} (L : Line line) {one B : Deed} (ho : one ∈ line) (ns : ∀ p, has one p = false) (T : Tail line [B]) (hB : tgt B.w = some (name one)) (nv : name B ∉ voidsOf (line ++ [B]) []) :
    ∀ (l : List Deed), (∀ d ∈ l, d ∈ line) → ∀ q, q ≠ name one → (q ∈ takenL (voidsOf (line ++ [B]) []) (l ++ [B]) ↔ q ∈ takenL (voidsOf (line.filter (butOne one)) []) (l.filter (butOne one)))
  | [], _, q, nq => by
    rw [List.nil_append, back_last hB nv]
    simp [takenL, nq]
  | d :: l, hl, q, nq => by
    have ih := back_taken L ho ns T hB nv l fun e he => hl e (List.mem_cons_of_mem _ he)
    have hd := hl d List.mem_cons_self
    have last : name one ∈ takenL (voidsOf (line ++ [B]) []) (l ++ [B]) := taken_more (by rw [back_last hB nv]; exact List.mem_singleton.mpr rfl)
    rw [List.cons_append]
    by_cases c : d = one
    · have f : butOne one d = false := by unfold butOne; rw [decide_eq_true c]; rfl
      rw [List.filter_cons_of_neg (by simp [f])]
      have e : takenL (voidsOf (line ++ [B]) []) (d :: (l ++ [B])) = takenL (voidsOf (line ++ [B]) []) (l ++ [B]) := by
        conv => lhs; unfold takenL
        cases tgt d.w with
        | none => rfl
        | some q' =>
          dsimp only
          rw [if_neg fun z => z.2 (by rw [c]; exact last)]
      rw [e]; exact ih q nq
    · have f : butOne one d = true := by unfold butOne; rw [decide_eq_false c]; rfl
      have dm : d ∈ line.filter (butOne one) := List.mem_filter.mpr ⟨hd, f⟩
      have nd : name d ≠ name one := fun z => c (L.uq d hd one ho z)
      rw [List.filter_cons_of_pos f]
      unfold takenL
      cases ht : tgt d.w with
      | none => exact ih q nq
      | some q' =>
        dsimp only
        have i1 := ih (name d) nd
        by_cases m : q' = name one
        · have pq : q ≠ q' := fun z => nq (z.trans m)
          have drop : ∀ (C : Prop) [Decidable C] (T : List Pt), (q ∈ if C then q' :: T else T) ↔ q ∈ T := fun C _ T => by
            split
            · rw [List.mem_cons]; exact ⟨fun z => z.resolve_left pq, .inr⟩
            · exact Iff.rfl
          rw [drop, drop]; exact ih q nq
        · have v : (name d ∈ voidsOf (line ++ [B]) [] ↔ name d ∈ voidsOf (line.filter (butOne one)) []) := by
            rw [T.mem_voids L hd, voids_mem (L.filter _) dm]
            unfold voidB
            rw [ht]
            dsimp only
            rw [one_void ns fun z => m z.symm]
          by_cases g : name d ∉ voidsOf (line ++ [B]) [] ∧ name d ∉ takenL (voidsOf (line ++ [B]) []) (l ++ [B])
          · rw [if_pos g, if_pos ⟨fun z => g.1 (v.mpr z), fun z => g.2 (i1.mpr z)⟩, List.mem_cons, List.mem_cons, ih q nq]
          · rw [if_neg g, if_neg fun z => g ⟨fun y => z.1 (v.mp y), fun y => z.2 (i1.mp y)⟩]; exact ih q nq
theorem back_stand {line : List Deed} (L : Line line) {one B : Deed} (ho : one ∈ line) (nl : lasting one.w = false) (ns : ∀ p, has one p = false) (T : Tail line [B]) (hB : tgt B.w = some (name one)) (nv : name B ∉ voidsOf (line ++ [B]) []) :
    line.filter (standB (line ++ [B]) []) = standOf (line.filter (butOne one)) [] := by
  unfold standOf
  rw [List.filter_filter]
  refine List.filter_congr fun d hd => ?_
  have t := back_taken L ho ns T hB nv line fun _ h => h
  by_cases c : d = one
  · subst c
    have f : butOne d d = false := by unfold butOne; simp
    have last : name d ∈ takenOf (line ++ [B]) [] := by
      unfold takenOf
      exact taken_more (by rw [back_last hB nv]; exact List.mem_singleton.mpr rfl)
    rw [f]
    unfold standB
    rw [nl, decide_eq_true last]
    simp
  · have f : butOne one d = true := by unfold butOne; rw [decide_eq_false c]; rfl
    have nd : name d ≠ name one := fun z => c (L.uq d hd one ho z)
    have e' : decide (name d ∈ takenOf (line ++ [B]) []) = decide (name d ∈ takenOf (line.filter (butOne one)) []) := decide_eq_decide.mpr (t (name d) nd)
    rw [f, Bool.and_true]
    unfold standB
    rw [e']
theorem back_worths {line : List Deed} (L : Line line) {one B : Deed} (ho : one ∈ line) (nl : lasting one.w = false) (ns : ∀ p, has one p = false) (T : Tail line [B]) (hB : tgt B.w = some (name one)) (nv : name B ∉ voidsOf (line ++ [B]) []) (b : List Int) :
    worthsOf b (line ++ [B]) [] = worthsOf b (line.filter (butOne one)) [] := by
  unfold worthsOf
  have e : standOf (line ++ [B]) [] = standOf (line.filter (butOne one)) [] ++ [B].filter (standB (line ++ [B]) []) := by
    rw [← back_stand L ho nl ns T hB nv]
    unfold standOf
    rw [List.filter_append]
  rw [e, List.foldl_append]
  refine fold_none fun d hd c k x z => ?_
  rw [List.mem_singleton.mp (List.mem_filter.mp hd).1] at z
  rw [z] at hB
  cases hB
end Rw
namespace Rw
open PySem L2
/-! ### the lists that the law puts behind -/
structure Ahead (line : List Deed) (T : Int) : Prop where
  L : Line line
  tm : ∀ d ∈ line, d.t < T
  tame : ∀ d ∈ line, TameD d
theorem Ahead.tail {line : List Deed} {T : Int} (h : Ahead line T) {tl : List Deed} (h7 : ∀ e ∈ tl, e.h = 7 ∧ T ≤ e.t) : Tail line tl :=
  ⟨fun d hd e he => by have := h.tm d hd; have := (h7 e he).2; omega, fun e he => (h7 e he).1, h.tame⟩
theorem Ahead.no7 {line : List Deed} {T : Int} (h : Ahead line T) {d : Deed} (hd : d ∈ line) {p : Pt} (p7 : p.1 = 7) : has d p = false ∧ name d ≠ p := by
  have t := h.tame d hd
  refine ⟨?_, fun z => ?_⟩
  · unfold has
    cases hw : d.w with
    | shut rows =>
      have ts := t.2.1
      rw [hw] at ts
      dsimp only
      cases q : memB rows p with
      | false => rfl
      | true =>
        obtain ⟨r, hr, i1, _⟩ := memB_iff.mp q
        have : r.1 < 7 := ts r hr
        omega
    | _ => rfl
  · have : d.h = p.1 := congrArg Prod.fst z
    have := t.1
    omega
def dBack (T : Int) (p : Pt) : Deed := ⟨7, 1, T, .back p.1 p.2⟩
def dAgain (T : Int) : Deed := ⟨7, 2, T + 1, .back 7 1⟩
def dSeal (T : Int) (p : Pt) : Deed := ⟨7, 1, T, .shut [(p.1, p.2, p.2)]⟩
def dLater (T : Int) (p : Pt) : Deed := ⟨7, 2, T + 1, .back p.1 p.2⟩
def dAhead (T : Int) : Deed := ⟨7, 1, T, .back 7 2⟩
def dNone (T : Int) : Deed := ⟨7, 2, T + 1, .shut []⟩
section
variable {line : List Deed} {T : Int}
/-- one void deed behind: is it so -/
theorem Ahead.back_void (h : Ahead line T) {p : Pt} (hp : p.1 < 7) : voidB (line ++ [dBack T p]) [] (dBack T p) = line.any fun s => has s p := by
  have tl : Tail line [dBack T p] := h.tail fun e he => by rw [List.mem_singleton.mp he]; exact ⟨rfl, Int.le_refl _⟩
  show voidP (line ++ [dBack T p]) [] (dBack T p) (p.1, p.2) = _
  have e1 : line.any (fun s => sLtB s (dBack T p) && has s (p.1, p.2)) = line.any fun s => has s p := by
    rw [Bool.eq_iff_iff, List.any_eq_true, List.any_eq_true]
    constructor
    · rintro ⟨s, hs, z⟩
      exact ⟨s, hs, (Bool.and_eq_true_iff.mp z).2⟩
    · rintro ⟨s, hs, z⟩
      exact ⟨s, hs, by rw [(tl.late hs (List.mem_singleton.mpr rfl)).2]; exact z⟩
  have e2 : line.any (fun e => decide (name e = (p.1, p.2)) && !sLtB e (dBack T p)) = false := by
    rw [List.any_eq_false]
    intro e he
    rw [(tl.late he (List.mem_singleton.mpr rfl)).2]
    simp
  have e3 : decide (name (dBack T p) = (p.1, p.2)) = false := decide_eq_false fun z => by
    have : (7 : Int) = p.1 := congrArg Prod.fst z
    omega
  have e4 : has (dBack T p) (p.1, p.2) = false := rfl
  unfold voidP
  rw [List.any_append, List.any_append, e1, e2]
  simp only [List.any_cons, List.any_nil, e3, e4, Bool.and_false, Bool.false_and, Bool.or_false]
  simp [memB]
theorem Ahead.back (h : Ahead line T) {one : Deed} (ho : one ∈ line) (nl : lasting one.w = false) (ns : ∀ p, has one p = false) (b : List Int) :
    worthsOf b (line ++ [dBack T (name one)]) [] = if (line.any fun s => has s (name one)) = true then worthsOf b line [] else worthsOf b (line.filter (butOne one)) [] := by
  have hp : (name one).1 < 7 := (h.tame one ho).1
  have tl : Tail line [dBack T (name one)] := h.tail fun e he => by rw [List.mem_singleton.mp he]; exact ⟨rfl, Int.le_refl _⟩
  have vb := h.back_void hp
  have vm : name (dBack T (name one)) ∈ voidsOf (line ++ [dBack T (name one)]) [] ↔ (line.any fun s => has s (name one)) = true := by
    rw [tl.voids, List.mem_append, ← vb]
    constructor
    · rintro (z | z)
      · obtain ⟨e, he, q⟩ := List.mem_map.mp z
        exact absurd q.symm (tl.name (List.mem_filter.mp he).1 (List.mem_singleton.mpr rfl))
      · obtain ⟨e, he, q⟩ := List.mem_map.mp z
        have h1 := List.mem_filter.mp he
        rw [← List.mem_singleton.mp h1.1]
        have h2 := h1.2
        rw [List.mem_singleton.mp h1.1] at h2 ⊢
        exact h2
    · intro z
      exact .inr (List.mem_map.mpr ⟨_, List.mem_filter.mpr ⟨List.mem_singleton.mpr rfl, z⟩, rfl⟩)
  by_cases c : (line.any fun s => has s (name one)) = true
  · rw [if_pos c]
    refine tl.worths (X := []) ?_ (by simp) (fun d hd c k x z => ?_) b
    · unfold takenL
      show (if name (dBack T (name one)) ∉ voidsOf (line ++ [dBack T (name one)]) [] ∧ name (dBack T (name one)) ∉ takenL (voidsOf (line ++ [dBack T (name one)]) []) [] then _ else _) = _
      rw [if_neg fun z => z.1 (vm.mpr c)]
      rfl
    · rw [List.mem_singleton.mp hd] at z; cases z
  · rw [if_neg c]
    exact back_worths h.L ho nl ns tl rfl (fun z => c (vm.mp z)) b
theorem void_mem {line tl : List Deed} (h : Tail line tl) (ap : ∀ a ∈ tl, ∀ b ∈ tl, name a = name b → a = b) {e : Deed} (he : e ∈ tl) : name e ∈ voidsOf (line ++ tl) [] ↔ voidB (line ++ tl) [] e = true := by
  rw [h.voids, List.mem_append]
  constructor
  · rintro (z | z)
    · obtain ⟨g, hg, q⟩ := List.mem_map.mp z
      exact absurd q.symm (h.name (List.mem_filter.mp hg).1 he)
    · obtain ⟨g, hg, q⟩ := List.mem_map.mp z
      have h1 := List.mem_filter.mp hg
      rw [← ap g h1.1 e he q]
      exact h1.2
  · intro z
    exact .inr (List.mem_map.mpr ⟨e, List.mem_filter.mpr ⟨he, z⟩, rfl⟩)
theorem two_apart {a b : Deed} (n : name a ≠ name b) : ∀ x ∈ [a, b], ∀ y ∈ [a, b], name x = name y → x = y := fun x hx y hy e => by
  simp only [List.mem_cons, List.not_mem_nil, or_false] at hx hy
  rcases hx with rfl | rfl <;> rcases hy with rfl | rfl
  · rfl
  · exact absurd e n
  · exact absurd e.symm n
  · rfl
theorem Ahead.two (h : Ahead line T) {a b : Deed} (ha : a.h = 7 ∧ T ≤ a.t) (hb : b.h = 7 ∧ T ≤ b.t) : Tail line [a, b] := h.tail fun e he => by
  simp only [List.mem_cons, List.not_mem_nil, or_false] at he
  rcases he with rfl | rfl
  · exact ha
  · exact hb
/-- the back that is taken back itself -/
theorem Ahead.again (h : Ahead line T) (p : Pt) (b : List Int) :
    worthsOf b (line ++ [dBack T p, dAgain T]) [] = worthsOf b line [] ∧ ((7, 1) : Pt) ∉ (standOf (line ++ [dBack T p, dAgain T]) []).map name := by
  have tl : Tail line [dBack T p, dAgain T] := h.two ⟨rfl, Int.le_refl _⟩ ⟨rfl, by show T ≤ T + 1; omega⟩
  have ne : name (dBack T p) ≠ name (dAgain T) := fun z => absurd (congrArg Prod.snd z) (by show ¬ (1 : Int) = 2; decide)
  have ap := two_apart ne
  have lt : sLtB (dBack T p) (dAgain T) = true := sLtB_iff.mpr (.inl (by show T < T + 1; omega))
  have va : voidB (line ++ [dBack T p, dAgain T]) [] (dAgain T) = false := by
    show voidP (line ++ [dBack T p, dAgain T]) [] (dAgain T) (7, 1) = false
    have e1 : line.any (fun s => sLtB s (dAgain T) && has s (7, 1)) = false := by
      rw [List.any_eq_false]
      intro s hs
      rw [(h.no7 hs rfl).1]
      simp
    have e2 : line.any (fun e => decide (name e = (7, 1)) && !sLtB e (dAgain T)) = false := by
      rw [List.any_eq_false]
      intro e he
      rw [decide_eq_false (h.no7 he rfl).2]
      simp
    have e3 : decide (name (dAgain T) = (7, 1)) = false := decide_eq_false fun z => absurd (congrArg Prod.snd z) (by show ¬ (2 : Int) = 1; decide)
    have e4 : has (dBack T p) (7, 1) = false := rfl
    have e5 : has (dAgain T) (7, 1) = false := rfl
    unfold voidP
    rw [List.any_append, List.any_append, e1, e2]
    simp only [List.any_cons, List.any_nil, e3, e4, e5, lt, Bool.and_false, Bool.false_and, Bool.or_false, Bool.not_true]
    simp [memB]
  have na : name (dAgain T) ∉ voidsOf (line ++ [dBack T p, dAgain T]) [] := fun z => by
    rw [void_mem tl ap (by simp), va] at z
    cases z
  have t1 : takenL (voidsOf (line ++ [dBack T p, dAgain T]) []) [dAgain T] = [(7, 1)] := back_last rfl na
  have tx : takenL (voidsOf (line ++ [dBack T p, dAgain T]) []) [dBack T p, dAgain T] = [(7, 1)] := by
    rw [takenL, t1]
    show (if name (dBack T p) ∉ voidsOf (line ++ [dBack T p, dAgain T]) [] ∧ name (dBack T p) ∉ [((7, 1) : Pt)] then _ else _) = _
    rw [if_neg fun z => z.2 (List.mem_singleton.mpr rfl)]
  have s7 : ∀ q ∈ [((7, 1) : Pt)], q.1 = 7 := fun q hq => by rw [List.mem_singleton.mp hq]
  refine ⟨tl.worths tx s7 (fun d hd c k x z => ?_) b, fun z => ?_⟩
  · simp only [List.mem_cons, List.not_mem_nil, or_false] at hd
    rcases hd with rfl | rfl <;> cases z
  · obtain ⟨d, hd, q⟩ := List.mem_map.mp z
    rw [(tl.same tx s7).1] at hd
    rcases List.mem_append.mp hd with hd | hd
    · exact (h.no7 (List.mem_filter.mp hd).1 (p := (7, 1)) rfl).2 q
    · have h1 := List.mem_filter.mp hd
      have h2 := h1.1
      simp only [List.mem_cons, List.not_mem_nil, or_false] at h2
      rcases h2 with rfl | rfl
      · have h3 := h1.2
        unfold standB at h3
        rw [(tl.same tx s7).2, decide_eq_true (show name (dBack T p) ∈ takenOf line [] ++ [((7, 1) : Pt)] from List.mem_append_right _ (List.mem_singleton.mpr rfl))] at h3
        cases h3
      · exact absurd (congrArg Prod.snd q) (by show ¬ (2 : Int) = 1; decide)
/-- what is sealed ahead is not taken back -/
theorem Ahead.later (h : Ahead line T) (p : Pt) (b : List Int) :
    worthsOf b (line ++ [dSeal T p, dLater T p]) [] = worthsOf b line [] ∧ ((7, 2) : Pt) ∈ voidsOf (line ++ [dSeal T p, dLater T p]) [] := by
  have tl : Tail line [dSeal T p, dLater T p] := h.two ⟨rfl, Int.le_refl _⟩ ⟨rfl, by show T ≤ T + 1; omega⟩
  have ne : name (dSeal T p) ≠ name (dLater T p) := fun z => absurd (congrArg Prod.snd z) (by show ¬ (1 : Int) = 2; decide)
  have ap := two_apart ne
  have lt : sLtB (dSeal T p) (dLater T p) = true := sLtB_iff.mpr (.inl (by show T < T + 1; omega))
  have hs : has (dSeal T p) (p.1, p.2) = true := by
    show memB [(p.1, p.2, p.2)] (p.1, p.2) = true
    rw [memB_iff]
    exact ⟨_, List.mem_singleton.mpr rfl, rfl, Int.le_refl _, Int.le_refl _⟩
  have va : voidB (line ++ [dSeal T p, dLater T p]) [] (dLater T p) = true := by
    show voidP (line ++ [dSeal T p, dLater T p]) [] (dLater T p) (p.1, p.2) = true
    have : (line ++ [dSeal T p, dLater T p]).any (fun s => sLtB s (dLater T p) && has s (p.1, p.2)) = true := by
      rw [List.any_eq_true]
      exact ⟨dSeal T p, by simp, by rw [lt, hs]; rfl⟩
    unfold voidP
    rw [this, Bool.or_true, Bool.true_or]
  have nv : name (dLater T p) ∈ voidsOf (line ++ [dSeal T p, dLater T p]) [] := (void_mem tl ap (by simp)).mpr va
  have t1 : takenL (voidsOf (line ++ [dSeal T p, dLater T p]) []) [dLater T p] = [] := by
    rw [takenL]
    show (if name (dLater T p) ∉ voidsOf (line ++ [dSeal T p, dLater T p]) [] ∧ _ then _ else _) = _
    rw [if_neg fun z => z.1 nv]
    rfl
  have tx : takenL (voidsOf (line ++ [dSeal T p, dLater T p]) []) [dSeal T p, dLater T p] = [] := by
    rw [takenL, t1]
    rfl
  refine ⟨tl.worths tx (by simp) (fun d hd c k x z => ?_) b, nv⟩
  simp only [List.mem_cons, List.not_mem_nil, or_false] at hd
  rcases hd with rfl | rfl <;> cases z
/-- what is behind is not taken back -/
theorem Ahead.ahead (h : Ahead line T) (b : List Int) : worthsOf b (line ++ [dAhead T, dNone T]) [] = worthsOf b line [] := by
  have tl : Tail line [dAhead T, dNone T] := h.two ⟨rfl, Int.le_refl _⟩ ⟨rfl, by show T ≤ T + 1; omega⟩
  have ne : name (dAhead T) ≠ name (dNone T) := fun z => absurd (congrArg Prod.snd z) (by show ¬ (1 : Int) = 2; decide)
  have ap := two_apart ne
  have lt : sLtB (dNone T) (dAhead T) = false := by
    cases q : sLtB (dNone T) (dAhead T) with
    | false => rfl
    | true =>
      have a := sLtB_iff.mp q
      unfold sLt dNone dAhead at a
      simp only at a
      omega
  have va : voidB (line ++ [dAhead T, dNone T]) [] (dAhead T) = true := by
    show voidP (line ++ [dAhead T, dNone T]) [] (dAhead T) (7, 2) = true
    have : (line ++ [dAhead T, dNone T]).any (fun e => decide (name e = (7, 2)) && !sLtB e (dAhead T)) = true := by
      rw [List.any_eq_true]
      exact ⟨dNone T, by simp, by rw [lt, decide_eq_true (show name (dNone T) = (7, 2) from rfl)]; rfl⟩
    unfold voidP
    rw [this, Bool.or_true]
  have nv : name (dAhead T) ∈ voidsOf (line ++ [dAhead T, dNone T]) [] := (void_mem tl ap (by simp)).mpr va
  have t1 : takenL (voidsOf (line ++ [dAhead T, dNone T]) []) [dNone T] = [] := rfl
  have tx : takenL (voidsOf (line ++ [dAhead T, dNone T]) []) [dAhead T, dNone T] = [] := by
    rw [takenL, t1]
    show (if name (dAhead T) ∉ voidsOf (line ++ [dAhead T, dNone T]) [] ∧ _ then _ else _) = _
    rw [if_neg fun z => z.1 nv]
  refine tl.worths tx (by simp) (fun d hd c k x z => ?_) b
  simp only [List.mem_cons, List.not_mem_nil, or_false] at hd
  rcases hd with rfl | rfl <;> cases z
end
/-- the line with two more behind, in any order -/
theorem line_two {ds line : List Deed} {T : Int} (l : LineOf ds line) (tm : ∀ d ∈ ds, d.t < T) {a b : Deed} (ha : a.t = T) (hb : b.t = T + 1) : LineOf (ds ++ [a, b]) (line ++ [a, b]) ∧ LineOf (ds ++ [b, a]) (line ++ [a, b]) := by
  have ord : (line ++ [a, b]).Pairwise sLt := by
    refine List.pairwise_append.mpr ⟨l.ord, ?_, fun x hx y hy => ?_⟩
    · simp only [List.pairwise_cons, List.mem_cons, List.not_mem_nil, or_false, forall_eq, List.Pairwise.nil, and_true]
      exact ⟨.inl (by omega), fun _ h => h.elim⟩
    · have := tm x ((l.mem x).mp hx)
      simp only [List.mem_cons, List.not_mem_nil, or_false] at hy
      rcases hy with rfl | rfl
      · exact .inl (by omega)
      · exact .inl (by omega)
  exact ⟨⟨ord, fun d => by simp [l.mem]⟩, ⟨ord, fun d => by simp [l.mem, or_comm]⟩⟩
/-! ### four deeds -/
def put4 : List Deed := [⟨0, 1, 1, .chg true 3 4⟩, ⟨1, 1, 2, .chg false 3 9⟩, ⟨0, 2, 3, .chg true 3 1⟩, ⟨1, 2, 4, .back 1 1⟩]
theorem put4_line : LineOf put4 put4 := ⟨by unfold put4 sLt; decide, fun _ => Iff.rfl⟩
theorem put3_line : LineOf (put4.take 3) (put4.take 3) := ⟨by unfold put4 sLt; decide, fun _ => Iff.rfl⟩
theorem put4_worths : worthsOf zeros put4 [] = [0, 0, 0, 5, 0, 0] := by decide +kernel
theorem put3_worths : worthsOf zeros (put4.take 3) [] = [0, 0, 0, 10, 0, 0] := by decide +kernel
theorem apart_ex : ∀ {ds : List Deed}, Uniq ds → ∃ es : List Deed, (es.map fun d => kk (name d)).Nodup ∧ ∀ d, d ∈ es ↔ d ∈ ds
  | [], _ => ⟨[], by simp, fun d => Iff.rfl⟩
  | d :: ds, u => by
    obtain ⟨es, n, m⟩ := apart_ex (ds := ds) fun e he g hg z => u e (List.mem_cons_of_mem _ he) g (List.mem_cons_of_mem _ hg) z
    by_cases c : d ∈ ds
    · refine ⟨es, n, fun e => ?_⟩
      rw [m e, List.mem_cons]
      exact ⟨.inr, fun z => z.elim (fun q => q ▸ c) id⟩
    · refine ⟨d :: es, ?_, fun e => by rw [List.mem_cons, List.mem_cons, m e]⟩
      rw [List.map_cons]
      refine List.nodup_cons.mpr ⟨fun z => ?_, n⟩
      obtain ⟨g, hg, q⟩ := List.mem_map.mp z
      have hg' := (m g).mp hg
      have := u g (List.mem_cons_of_mem _ hg') d List.mem_cons_self (kk_name q)
      exact c (this ▸ hg')
theorem line_ex {ds : List Deed} (u : Uniq ds) : ∃ line, LineOf ds line := by
  obtain ⟨es, n, m⟩ := apart_ex u
  exact ⟨_, line_sort n m⟩
theorem line_filter {ds line : List Deed} (f : Deed → Bool) (l : LineOf ds line) : LineOf (ds.filter f) (line.filter f) :=
  ⟨l.ord.sublist List.filter_sublist, fun d => by rw [List.mem_filter, List.mem_filter, l.mem]⟩
theorem line_one {ds line : List Deed} {T : Int} (l : LineOf ds line) (tm : ∀ d ∈ ds, d.t < T) {a : Deed} (ha : a.t = T) : LineOf (ds ++ [a]) (line ++ [a]) := by
  refine ⟨List.pairwise_append.mpr ⟨l.ord, by simp, fun x hx y hy => ?_⟩, fun d => by simp [l.mem]⟩
  have := tm x ((l.mem x).mp hx)
  rw [List.mem_singleton.mp hy]
  exact .inl (by omega)
theorem any_line {ds line : List Deed} (l : LineOf ds line) (f : Deed → Bool) : line.any f = ds.any f := by
  rw [Bool.eq_iff_iff, List.any_eq_true, List.any_eq_true]
  exact ⟨fun ⟨x, h, z⟩ => ⟨x, (l.mem x).mp h, z⟩, fun ⟨x, h, z⟩ => ⟨x, (l.mem x).mpr h, z⟩⟩
theorem eqv_pt2 (p q : Pt) : PyData.eqv (dPt p) (dPt q) = decide (p = q) := by
  obtain ⟨a, b⟩ := p
  obtain ⟨c, d⟩ := q
  simp only [dPt, PyData.eqv, PyData.eqvAll, Bool.and_true]
  by_cases e1 : a = c <;> by_cases e2 : b = d <;> simp [e1, e2]
theorem any_pts10 (p : Pt) : ∀ ps : List Pt, ((ps.map dPt).any fun z => PyData.eqv z (dPt p)) = decide (p ∈ ps)
  | [] => by simp
  | q :: ps => by
    rw [List.map_cons, List.any_cons, any_pts10 p ps, eqv_pt2]
    by_cases e : q = p <;> by_cases m : p ∈ ps
    · simp [e, m]
    · simp [e, m]
    · simp [e, m]
    · have e' : ¬ p = q := fun z => e z.symm
      simp [e, m, e']
theorem shaped_pt10 (p : Pt) : SeqAt.shaped (dPt p) = true := by
  unfold SeqAt.shaped
  simp [dPt, PyData.canLay0, PyData.canLayAll0, PyData.depth, PyData.depthAll]
theorem str_off {a b : Str} (h : ¬ a = b) : decide (V.str a = V.str b) = false := decide_eq_false fun z => h (V.str.inj z)
theorem word_seal : ∀ (w : What), (¬ ∃ rows, w = .shut rows) → decide (V.str (word w) = V.str "seal") = false
  | .chg true _ _, _ => str_off (a := "add") (b := "seal") (by decide)
  | .chg false _ _, _ => str_off (a := "put") (b := "seal") (by decide)
  | .back _ _, _ => str_off (a := "back") (b := "seal") (by decide)
  | .shut r, h => absurd ⟨r, rfl⟩ h
  | .bye, _ => str_off (a := "bye") (b := "seal") (by decide)
theorem given_tail {F : Hp} {v : V} {ds tl : List Deed} (ok : ∀ d ∈ ds, DeedOk d) (u : Uniq ds) (tame : ∀ d ∈ ds, TameD d) (few : ds.length ≤ 300) (tk : ∀ e ∈ tl, DeedOk e ∧ e.h = 7) (ap : ∀ a ∈ tl, ∀ b ∈ tl, name a = name b → a = b) (tf : tl.length ≤ 10) (h : (kL kDeed).is F v (ds ++ tl)) : Given F v (ds ++ tl) := by
  have off : ∀ d ∈ ds, ∀ e ∈ tl, name d ≠ name e := fun d hd e he z => by
    have h1 := (tame d hd).1
    have h2 : d.h = e.h := congrArg Prod.fst z
    rw [(tk e he).2] at h2
    omega
  refine ⟨h, fun e he => ?_, fun e he g hg z => ?_, by rw [List.length_append]; omega⟩
  · exact (List.mem_append.mp he).elim (ok e) fun q => (tk e q).1
  · rcases List.mem_append.mp he with q | q <;> rcases List.mem_append.mp hg with q' | q'
    · exact u e q g q' z
    · exact absurd z (off e q g q')
    · exact absurd z.symm (off g q' e q)
    · exact ap e q g q' z
theorem put4_ok : ∀ d ∈ put4, DeedOk d := by
  intro d hd
  have eL : LIM = 1000000000000 := rfl
  simp only [put4, List.mem_cons, List.not_mem_nil, or_false] at hd
  rcases hd with rfl | rfl | rfl | rfl <;> exact ⟨by decide, by decide, by decide, by decide, by decide, by unfold WhatOk; decide⟩
theorem put4_uniq : Uniq put4 := uniq_of (by unfold put4; decide)
end Rw
namespace Rw
open PySem L2
/-! ### the law's own going: which backs are void -/
theorem sLtB_tri (a b : Deed) : sLtB a b = decide (ltT (stp a) (stp b)) := rfl
theorem same_fz2 {F H : Hp} {o : Addr} {x : HO} (s : Same F H) (e : H o = some x) : Same (upd F o x) H := fun b u z => by
  by_cases hb : b = o
  · rw [hb, upd_same] at z; rw [hb, e]; exact z
  · rw [upd_ne hb] at z; exact s _ _ z
def spLawIsVoid : Sp := fun vs H Q _ => ∃ (F : Hp) (v u : V) (ds : List Deed) (d : Deed) (p : Pt), vs = [v, u] ∧ Same F H ∧ (kL kDeed).is F v ds ∧ kDeed.is F u d ∧ tgt d.w = some p ∧ (∀ e ∈ ds, DeedOk e) ∧ ∀ H', Ext M0 F H F H' → Q (.bl (voidP ds [] d p)) H'
def voidE (d : Deed) (p : Pt) (e : Deed) : Bool := (decide (name e = p) && !sLtB e d) || (sLtB e d && has e p)
theorem any_or2 {α : Type} (f g : α → Bool) : ∀ l : List α, (l.any fun x => f x || g x) = (l.any f || l.any g)
  | [] => rfl
  | x :: l => by
    rw [List.any_cons, List.any_cons, List.any_cons, any_or2 f g l]
    cases f x <;> cases g x <;> simp
theorem voidP_any (ds : List Deed) (d : Deed) (p : Pt) : voidP ds [] d p = ds.any (voidE d p) := by
  have e : ds.any (voidE d p) = ((ds.any fun e => decide (name e = p) && !sLtB e d) || ds.any fun e => sLtB e d && has e p) := any_or2 _ _ ds
  rw [e]
  unfold voidP
  have z : memB [] p = false := rfl
  rw [z, Bool.false_or, Bool.or_comm]
section
variable {P : Program} {w : World} {K : PySem.W.Frag} {mg : Str → Option Value} {base : Heap}
set_option maxHeartbeats 2000000 in
theorem ok_law_is_void {f : Addr} {fd : FuncData} (F0 : Fun K "_law_is_void" "_law_is_void" s_law_is_void f fd) (CS : Cal P w K mg base 1 "_law_stamp" ["_law_deed"] spLawStamp) (CH : Cal P w K mg base 1 "_law_has" ["_law_rows_here", "_law_name"] spLawHas) :
    FnOk P w K mg base CX0 2 f fd ["_law_deeds", "_law_back"] spLawIsVoid := by
  obtain ⟨f1, fd1, G1, g1, kp1, b1⟩ := CS
  obtain ⟨f2, fd2, G2, g2, kp2, b2⟩ := CH
  refine F0.ok sc_law_is_void (fun vs H Q E h => ?_) (fun cdv A outer s H vs Q E hr h => ?_)
  · obtain ⟨F, v, u, ds, d, p, rfl, _⟩ := h
    rfl
  · obtain ⟨F, v, u, ds, d, p, rfl, fh, ⟨a, xs, rfl, ha, hp⟩, ⟨ad, uw, rfl, had, hw⟩, ht, okd, q⟩ := h
    have hu := hr.units
    have hu0 : (A.deeper (PyProof.Rows.envOfC "_law_is_void" (defScope s_law_is_void) s.heap.objs.size f cdv)).units < cLine := by have := hr.un; omega
    have ew := tgt_back ht
    rw [ew] at hw
    obtain ⟨aw, rfl, haw⟩ := hw
    have kd : kDeed.is F (.ref ad) d := ⟨ad, .ref aw, rfl, had, by rw [ew]; exact ⟨aw, rfl, haw⟩⟩
    refine ⟨_, pss_cons (ps_set (i := 2) sc_law_is_void.nd rfl (.inl rfl) (pe_tup (pa_cons (pe_ix ix_tup (pe_ix ix_tup (pv 1) pe_int (fun _ _ => rfl)) pe_int (fun _ _ => rfl)) (pa_cons (pe_ix ix_tup (pe_ix ix_tup (pv 1) pe_int (fun _ _ => rfl)) pe_int (fun _ _ => rfl)) pa_nil))))
      (pss_cons (ps_for PassesOwn.never rfl (pi_list (pv 0)) (pg_name (i := 3) sc_law_is_void.nd rfl (.inl rfl))
        (pss_cons (ps_if (PW.pt (pw_and (pt_cmpR (op_eqD hu) (pe_tup (pa_cons (pe_ix ix_tup (pv 3) pe_int (fun _ _ => rfl)) (pa_cons (pe_ix ix_tup (pv 3) pe_int (fun _ _ => rfl)) pa_nil))) (pv 2) (nomark _)) (pw_and1 (pt_cmpR (op_ge3 hu0) (pe_call G1 hr (by rfl) g1 kp1 b1 .nil pass0 (pa_cons (pv 3) pa_nil)) (pe_call G1 hr (by rfl) g1 kp1 b1 .nil pass0 (pa_cons (pv 1) pa_nil)) (nomark _))))) (pss_one (ps_ret pe_bl)) pss_nil)
        (pss_one (ps_if (PW.pt (pw_and (pt_cmpR op_eq (pe_ix ix_tup (pe_ix ix_tup (pv 3) pe_int (fun _ _ => rfl)) pe_int (fun _ _ => rfl)) pe_str (nomark _)) (pw_and (pt_cmpR (op_lt3 hu0) (pe_call G1 hr (by rfl) g1 kp1 b1 .nil pass0 (pa_cons (pv 3) pa_nil)) (pe_call G1 hr (by rfl) g1 kp1 b1 .nil pass0 (pa_cons (pv 1) pa_nil)) (nomark _)) (pw_and1 (pt_val (pe_call G2 hr (by rfl) g2 kp2 b2 .nil pass0 (pa_cons (pe_ix ix_tup (pe_ix ix_tup (pv 3) pe_int (fun _ _ => rfl)) pe_int (fun _ _ => rfl)) (pa_cons (pv 2) pa_nil)))))))) (pss_one (ps_ret pe_bl)) pss_nil))))
      (pss_one (ps_ret pe_bl))), ?_⟩
    have hH := fh _ _ had
    have hW := fh _ _ haw
    refine ⟨_, rfl, ad, _, 3, _, rfl, rfl, SqT.of hH, rfl, aw, _, 1, _, rfl, rfl, SqT.of hW, rfl, _, rfl, ad, _, 3, _, rfl, rfl, SqT.of hH, rfl, aw, _, 2, _, rfl, rfl, SqT.of hW, rfl, by show 2 ≤ sizeLine; decide, fun np nnp => ?_⟩
    have X0 := (Ext.refl (M := M0) fh).tmp (o := .tup [.int p.1, .int p.2]) nnp
    have hn0 : upd H np (.tup [.int p.1, .int p.2]) np = some (.tup [.int p.1, .int p.2]) := upd_same
    revert X0 hn0
    generalize upd H np (.tup [.int p.1, .int p.2]) = H0
    intro X0 hn0
    refine ⟨_, rfl, a, rfl, ⟨xs, SqL.of (X0.fh _ _ ha)⟩, for_list (K := K) (a := a) (xs := xs) (fun i σ H' => ∃ y3, σ = [some (.ref a), some (.ref ad), some (.ref np), y3] ∧ Ext M0 F H F H' ∧ H' np = some (.tup [.int p.1, .int p.2]) ∧ (ds.take i).any (voidE d p) = false)
      ⟨none, rfl, X0, hn0, rfl⟩ (fun i σ H' _ ⟨_, _, X, _⟩ => SqL.of (X.fh _ _ ha)) ?_ ?_⟩
    · rintro i x σ H1 hi ⟨y3, rfl, X1, hn1, hno⟩
      obtain ⟨e, he, hxe⟩ := pr_get hp hi
      have eok := okd e (List.mem_of_getElem? he)
      have eT : ds.take (i + 1) = ds.take i ++ [e] := by rw [List.take_add_one, he]; rfl
      have hit : voidE d p e = true → voidP ds [] d p = true := fun z => by
        rw [voidP_any]
        exact List.any_eq_true.mpr ⟨e, List.mem_of_getElem? he, z⟩
      have miss : voidE d p e = false → (ds.take (i + 1)).any (voidE d p) = false := fun z => by
        rw [eT, List.any_append, hno]
        simp [z]
      obtain ⟨ae, ue, rfl, hae, hwe⟩ := id hxe
      have hE := X1.fh _ _ hae
      have SD := stp e
      unfold gName
      refine seq_join (fun σ' H' => σ' = [some (.ref a), some (.ref ad), some (.ref np), some (.ref ae)] ∧ Ext M0 F H F H' ∧ H' np = some (.tup [.int p.1, .int p.2]) ∧ (decide (name e = p) && !sLtB e d) = false) ?_ fun key => ?_
      · rintro σ' H3 ⟨rfl, X3, hn3, c1⟩
        obtain ⟨av, rest, rfl, hav⟩ := what_tup hwe
        refine ⟨_, rfl, ae, _, 3, _, rfl, rfl, SqT.of (X3.fh _ _ hae), rfl, av, _, 0, _, rfl, rfl, SqT.of (X3.fh _ _ hav), atI_nat (j := 0) rfl, rfl, _, rfl, ?_⟩
        by_cases cs : ∃ rows, e.w = .shut rows
        · obtain ⟨rows, er⟩ := cs
          rw [er] at hwe ⊢
          obtain ⟨a2, u2, e2, ha2, hrows⟩ := hwe
          cases e2
          rw [decide_eq_true (show V.str (word (.shut rows)) = V.str "seal" from rfl)]
          refine iteT ⟨_, rfl, F, .ref ae, e, rfl, X3.fh, hxe, fun p3 np3 => ?_⟩
          have X4 := X3.tmp (o := .tup [.int e.t, .int e.h, .int e.n]) np3
          have hp4 : upd H3 p3 (.tup [.int e.t, .int e.h, .int e.n]) p3 = some (.tup [.int e.t, .int e.h, .int e.n]) := upd_same
          have hn4 : upd H3 p3 (.tup [.int e.t, .int e.h, .int e.n]) np = some (.tup [.int p.1, .int p.2]) := by rw [upd_ne (ne_of_none hn3 np3)]; exact hn3
          revert X4 hp4 hn4
          generalize upd H3 p3 (.tup [.int e.t, .int e.h, .int e.n]) = H4
          intro X4 hp4 hn4
          refine ⟨_, rfl, F, .ref ad, d, rfl, X4.fh, kd, fun p5 np5 => ?_⟩
          have X5 := X4.tmp (o := .tup [.int d.t, .int d.h, .int d.n]) np5
          have hn5 : upd H4 p5 (.tup [.int d.t, .int d.h, .int d.n]) np = some (.tup [.int p.1, .int p.2]) := by rw [upd_ne (ne_of_none hn4 np5)]; exact hn4
          refine ⟨p3, p5, stp e, stp d, rfl, rfl, by rw [upd_ne (ne_of_none hp4 np5)]; exact hp4, upd_same, decide (ltT (stp e) (stp d)), rfl, ?_⟩
          revert X5 hn5
          generalize upd H4 p5 (.tup [.int d.t, .int d.h, .int d.n]) = H5
          intro X5 hn5
          have lrows : rows.length ≤ 1000 := by
            have := eok.w
            rw [er] at this
            have := this.1.1
            omega
          have hhas : has e p = memB rows p := by unfold has; rw [er]
          by_cases c2 : ltT (stp e) (stp d)
          · rw [decide_eq_true c2]
            refine iteT ⟨_, rfl, ae, _, 3, _, rfl, rfl, SqT.of (X5.fh _ _ hae), rfl, av, _, 1, _, rfl, rfl, SqT.of (X5.fh _ _ ha2), rfl, _, rfl, upd F np (.tup [.int p.1, .int p.2]), u2, .ref np, rows, p, rfl, same_fz2 X5.fh hn5, (kT kRow).mono (same_upd (fh.free nnp)) hrows, ⟨np, rfl, upd_same⟩, lrows, fun H6 X6 => ?_⟩
            have X7 : Ext M0 F H F H6 := X5.trans (⟨Same.refl F, (same_upd (fh.free nnp)).trans X6.fh, X6.hh, X6.tr, fun _ _ => rfl⟩ : Ext M0 F H5 F H6)
            cases c3 : memB rows p with
            | true =>
              refine ⟨true, rfl, iteT ?_⟩
              have := q H6 X7
              rw [hit (by unfold voidE; rw [sLtB_tri, decide_eq_true c2, hhas, c3]; simp)] at this
              exact this
            | false =>
              exact ⟨false, rfl, iteF ⟨_, rfl, X7, X6.same _ _ hn5, miss (by unfold voidE; rw [c1, hhas, c3]; simp)⟩⟩
          · rw [decide_eq_false c2]
            exact iteF ⟨_, rfl, X5, hn5, miss (by unfold voidE; rw [c1, sLtB_tri, decide_eq_false c2]; simp)⟩
        · rw [word_seal _ cs]
          have : has e p = false := by
            unfold has
            cases c : e.w with
            | shut rows => exact absurd ⟨rows, c⟩ cs
            | chg _ _ _ => rfl
            | back _ _ => rfl
            | bye => rfl
          exact iteF (iteF ⟨_, rfl, X3, hn3, miss (by unfold voidE; rw [c1, this]; simp)⟩)
      -- (deed[0], deed[1]) == name
      refine ⟨_, rfl, ae, _, 0, _, rfl, rfl, SqT.of hE, rfl, _, rfl, ae, _, 1, _, rfl, rfl, SqT.of hE, rfl, by show 2 ≤ sizeLine; decide, fun t nt => ?_⟩
      have X2 := X1.tmp (o := .tup [.int e.h, .int e.n]) nt
      have hn2 : upd H1 t (.tup [.int e.h, .int e.n]) np = some (.tup [.int p.1, .int p.2]) := by rw [upd_ne (ne_of_none hn1 nt)]; exact hn1
      refine ⟨_, rfl, dPt (name e), dPt p, enc_pt.dp (Same.refl _) ⟨t, rfl, upd_same⟩, enc_pt.dp (Same.refl _) ⟨np, rfl, hn2⟩, shaped_pt10 _, shaped_pt10 _, ?_⟩
      rw [eqv_pt2]
      revert X2 hn2
      generalize upd H1 t (.tup [.int e.h, .int e.n]) = H2
      intro X2 hn2
      by_cases c : name e = p
      · rw [decide_eq_true c]
        refine ⟨_, rfl, iteT ?_⟩
        refine ⟨_, rfl, F, .ref ae, e, rfl, X2.fh, hxe, fun p3 np3 => ?_⟩
        have X4 := X2.tmp (o := .tup [.int e.t, .int e.h, .int e.n]) np3
        have hp4 : upd H2 p3 (.tup [.int e.t, .int e.h, .int e.n]) p3 = some (.tup [.int e.t, .int e.h, .int e.n]) := upd_same
        have hn4 : upd H2 p3 (.tup [.int e.t, .int e.h, .int e.n]) np = some (.tup [.int p.1, .int p.2]) := by rw [upd_ne (ne_of_none hn2 np3)]; exact hn2
        revert X4 hp4 hn4
        generalize upd H2 p3 (.tup [.int e.t, .int e.h, .int e.n]) = H4
        intro X4 hp4 hn4
        refine ⟨_, rfl, F, .ref ad, d, rfl, X4.fh, kd, fun p5 np5 => ?_⟩
        have X5 := X4.tmp (o := .tup [.int d.t, .int d.h, .int d.n]) np5
        have hn5 : upd H4 p5 (.tup [.int d.t, .int d.h, .int d.n]) np = some (.tup [.int p.1, .int p.2]) := by rw [upd_ne (ne_of_none hn4 np5)]; exact hn4
        refine ⟨p3, p5, stp e, stp d, rfl, rfl, by rw [upd_ne (ne_of_none hp4 np5)]; exact hp4, upd_same, (!decide (ltT (stp e) (stp d))), rfl, ?_⟩
        by_cases c2 : ltT (stp e) (stp d)
        · rw [decide_eq_true c2]
          exact iteF (key _ _ ⟨rfl, X5, hn5, by rw [sLtB_tri, decide_eq_true c2]; simp⟩)
        · rw [decide_eq_false c2]
          refine iteT ?_
          have := q _ X5
          rw [hit (by unfold voidE; rw [sLtB_tri, decide_eq_false c2, decide_eq_true c]; simp)] at this
          exact this
      · rw [decide_eq_false c]
        exact ⟨_, rfl, iteF (iteF (key _ _ ⟨rfl, X2, hn2, by rw [decide_eq_false c]; simp⟩))⟩
    · rintro σ H1 ⟨y3, rfl, X1, hn1, hno⟩
      rw [pr_len hp, List.take_length] at hno
      have := q H1 X1
      rw [voidP_any, hno] at this
      exact this
end
end Rw
namespace Rw
open PySem L2
/-! ### what is taken back, by the backs that do something -/
theorem takenL_cons (V : List Pt) (d : Deed) (rest : List Deed) : takenL V (d :: rest) = match tgt d.w with
  | some p => if name d ∉ V ∧ name d ∉ takenL V rest then p :: takenL V rest else takenL V rest
  | none => takenL V rest := rfl
theorem taken_key {V : List Pt} {q : Pt} {l2 : List Deed} : ∀ {l1 : List Deed}, (∀ x ∈ l1, tgt x.w = some q → name x ∈ V) → (q ∈ takenL V (l1 ++ l2) ↔ q ∈ takenL V l2)
  | [], _ => Iff.rfl
  | x :: l1, h => by
    have ih := taken_key (l2 := l2) (q := q) (V := V) (l1 := l1) fun y hy => h y (List.mem_cons_of_mem _ hy)
    rw [← ih]
    rw [List.cons_append, takenL_cons]
    cases c : tgt x.w with
    | none => exact Iff.rfl
    | some p =>
      dsimp only
      split
      · rename_i g
        rw [List.mem_cons]
        refine ⟨fun z => z.elim (fun e => ?_) id, .inr⟩
        subst e
        exact absurd (h x List.mem_cons_self c) g.1
      · exact Iff.rfl
theorem taken_split {V : List Pt} {q : Pt} : ∀ {l : List Deed}, q ∈ takenL V l ↔ ∃ l1 b l2, l = l1 ++ b :: l2 ∧ tgt b.w = some q ∧ name b ∉ V ∧ name b ∉ takenL V l2
  | [] => ⟨fun h => absurd h (by simp [takenL]), fun ⟨l1, b, l2, e, _⟩ => by simp at e⟩
  | x :: l => by
    have ih := taken_split (V := V) (q := q) (l := l)
    have later : q ∈ takenL V l → ∃ l1 b l2, x :: l = l1 ++ b :: l2 ∧ tgt b.w = some q ∧ name b ∉ V ∧ name b ∉ takenL V l2 := fun h => by
      obtain ⟨l1, b, l2, e, r⟩ := ih.mp h
      exact ⟨x :: l1, b, l2, by rw [e]; rfl, r⟩
    have back : ∀ l1 b l2, l = l1 ++ b :: l2 → tgt b.w = some q ∧ name b ∉ V ∧ name b ∉ takenL V l2 → q ∈ takenL V l := fun l1 b l2 e r => ih.mpr ⟨l1, b, l2, e, r⟩
    constructor
    · intro h
      rw [takenL_cons] at h
      cases c : tgt x.w with
      | none => rw [c] at h; exact later h
      | some p =>
        rw [c] at h
        dsimp only at h
        split at h
        · rename_i g
          rcases List.mem_cons.mp h with e | h
          · subst e
            exact ⟨[], x, l, rfl, c, g.1, g.2⟩
          · exact later h
        · exact later h
    · rintro ⟨l1, b, l2, e, r1, r2, r3⟩
      have more : q ∈ takenL V l → q ∈ takenL V (x :: l) := fun h => by
        rw [takenL_cons]
        cases c : tgt x.w with
        | none => exact h
        | some p =>
          dsimp only
          split
          · exact List.mem_cons_of_mem _ h
          · exact h
      cases l1 with
      | nil =>
        rw [List.nil_append] at e
        obtain ⟨rfl, rfl⟩ := List.cons.inj e
        rw [takenL_cons]
        rw [r1]
        dsimp only
        rw [if_pos ⟨r2, r3⟩]
        exact List.mem_cons_self
      | cons y l1 =>
        rw [List.cons_append] at e
        obtain ⟨rfl, rfl⟩ := List.cons.inj e
        exact more (back l1 b l2 rfl ⟨r1, r2, r3⟩)
/-- a deed is taken back just by a back that isn't void and isn't taken back -/
theorem taken_rule {line : List Deed} (L : Line line) {q : Pt} : q ∈ takenOf line [] ↔ ∃ b ∈ line, tgt b.w = some q ∧ voidB line [] b = false ∧ name b ∉ takenOf line [] := by
  have key : ∀ l1 b l2, line = l1 ++ b :: l2 → (name b ∈ takenL (voidsOf line []) line ↔ name b ∈ takenL (voidsOf line []) l2) := fun l1 b l2 e => by
    have bm : b ∈ line := by rw [e]; simp
    have sub : ∀ x ∈ l1 ++ [b], x ∈ line := fun x hx => by
      rw [e]
      rcases List.mem_append.mp hx with h | h
      · exact List.mem_append_left _ h
      · rw [List.mem_singleton.mp h]; simp
    have z := taken_key (V := voidsOf line []) (q := name b) (l2 := l2) (l1 := l1 ++ [b]) fun x hx ht => by
      refine (voids_mem L (sub x hx)).mpr ?_
      unfold voidB
      rw [ht]
      dsimp only
      unfold voidP
      have nl : sLtB b x = false := by
        cases c : sLtB b x with
        | false => rfl
        | true =>
          exfalso
          have c := sLtB_iff.mp c
          rcases List.mem_append.mp hx with h | h
          · have o := L.ord
            rw [e] at o
            exact sLt_irr c ((List.pairwise_append.mp o).2.2 x h b List.mem_cons_self)
          · rw [List.mem_singleton.mp h] at c; exact sLt_irr c c
      have : (line.any fun e => decide (name e = name b) && !sLtB e x) = true := List.any_eq_true.mpr ⟨b, bm, by rw [decide_eq_true rfl, nl]; rfl⟩
      rw [this, Bool.or_true]
    rw [List.append_assoc] at z
    rw [← z]
    have : line = l1 ++ ([b] ++ l2) := e
    rw [← this]
  have vm : ∀ b ∈ line, name b ∉ voidsOf line [] ↔ voidB line [] b = false := fun b hb => by
    rw [voids_mem L hb]
    cases voidB line [] b <;> simp
  unfold takenOf
  constructor
  · intro h
    obtain ⟨l1, b, l2, e, r1, r2, r3⟩ := taken_split.mp h
    have bm : b ∈ line := by rw [e]; simp
    exact ⟨b, bm, r1, (vm b bm).mp r2, fun z => r3 ((key l1 b l2 e).mp z)⟩
  · rintro ⟨b, bm, r1, r2, r3⟩
    obtain ⟨l1, l2, e⟩ := List.append_of_mem bm
    exact taken_split.mpr ⟨l1, b, l2, e, r1, (vm b bm).mpr r2, fun z => r3 ((key l1 b l2 e).mpr z)⟩
theorem tgt_lasting {w : What} {p : Pt} (h : tgt w = some p) : lasting w = false := by rw [tgt_back h]; rfl
/-- the backs that do something -/
def workB (line : List Deed) (d : Deed) : Bool := (tgt d.w).isSome && !voidB line [] d
theorem stand_rule {line : List Deed} (L : Line line) (d : Deed) : standB line [] d = (lasting d.w || !((line.filter (workB line)).any fun b => decide (tgt b.w = some (name d)) && standB line [] b)) := by
  unfold standB
  cases lasting d.w with
  | true => rfl
  | false =>
    rw [Bool.false_or, Bool.false_or]
    congr 1
    rw [Bool.eq_iff_iff, decide_eq_true_eq, List.any_eq_true, taken_rule L]
    constructor
    · rintro ⟨b, hb, r1, r2, r3⟩
      refine ⟨b, List.mem_filter.mpr ⟨hb, by unfold workB; rw [r1, r2]; rfl⟩, ?_⟩
      rw [decide_eq_true r1, tgt_lasting r1, Bool.true_and, Bool.false_or, decide_eq_false r3]
      rfl
    · rintro ⟨b, hb, r⟩
      obtain ⟨h1, h2⟩ := List.mem_filter.mp hb
      rw [Bool.and_eq_true, decide_eq_true_eq] at r
      obtain ⟨r1, r2⟩ := r
      rw [tgt_lasting r1, Bool.false_or, Bool.not_eq_true', decide_eq_false_iff_not] at r2
      unfold workB at h2
      rw [r1, Option.isSome_some, Bool.true_and, Bool.not_eq_true'] at h2
      exact ⟨b, h1, r1, h2, r2⟩
end Rw
namespace Rw
open PySem L2
/-! ### the law's own going: what is taken back, what is alive, what it comes to -/
structure Told1 (F : Hp) (v : V) (ds : List Deed) : Prop where
  list : (kL kDeed).is F v ds
  ok : ∀ d ∈ ds, DeedOk d
  uq : Uniq ds
  few : ds.length ≤ 400
def spLawMarks : Sp := fun vs H Q _ => ∃ (F : Hp) (v : V) (ds : List Deed), vs = [v] ∧ Same F H ∧ Told1 F v ds ∧
  ∀ (F' H' : Hp) (p : Addr) (kvs : List (List Key × V)) (line : List Deed), Ext M0 F H F' H' → H p = none → F' p = none → H' p = some (.dT kvs) → LineOf ds line → (∀ d ∈ line, valV kvs (kk (name d)) = some (.bl (!standB line [] d))) → Q (.ref p) H'
def spLawAlive : Sp := fun vs H Q _ => ∃ (F : Hp) (v : V) (ds : List Deed), vs = [v] ∧ Same F H ∧ Told1 F v ds ∧ RetL M0 F H kDeed (fun out => ∃ line, LineOf ds line ∧ out = standOf line []) Q
def spLawWorths : Sp := fun vs H Q _ => ∃ (F : Hp) (v : V) (ds : List Deed), vs = [v] ∧ Same F H ∧ Told1 F v ds ∧ RetL M0 F H kInt (fun out => ∃ line, LineOf ds line ∧ out = worthsOf zeros line []) Q
structure TxM (mg : Str → Option Value) : Prop where
  dict : mg "dict" = none
theorem workB_back (line : List Deed) (d : Deed) : workB line d = ((tgt d.w).isSome && !voidP line [] d ((tgt d.w).getD (0, 0))) := by
  unfold workB voidB
  cases tgt d.w <;> rfl
theorem word_back : ∀ (w : What), decide (V.str (word w) = V.str "back") = (tgt w).isSome
  | .chg true _ _ => str_off (a := "add") (b := "back") (by decide)
  | .chg false _ _ => str_off (a := "put") (b := "back") (by decide)
  | .back _ _ => decide_eq_true rfl
  | .shut r => str_off (a := "seal") (b := "back") (by decide)
  | .bye => str_off (a := "bye") (b := "back") (by decide)
theorem word_lasting : ∀ (w : What), inV (V.str (word w)) [V.str "seal", V.str "bye"] = lasting w
  | .chg true _ _ => by show inV (V.str "add") _ = false; decide
  | .chg false _ _ => by show inV (V.str "put") _ = false; decide
  | .back _ _ => by show inV (V.str "back") _ = false; decide
  | .shut r => by show inV (V.str "seal") _ = true; decide
  | .bye => by show inV (V.str "bye") _ = true; decide
theorem pr_rev {α : Type} {R : V → α → Prop} : ∀ {vs : List V} {xs : List α}, Paired R vs xs → Paired R vs.reverse xs.reverse
  | _, _, .nil => .nil
  | _, _, .cons r t => by rw [List.reverse_cons, List.reverse_cons]; exact pr_snoc (pr_rev t) r
theorem line_few {ds line : List Deed} (l : LineOf ds line) (few : ds.length ≤ 400) : line.length ≤ 400 := Nat.le_trans l.len few
theorem rev_mem {line : List Deed} (L : Line line) {i : Nat} {d b : Deed} (hd : line.reverse[i]? = some d) (hb : b ∈ line) (h : sLtB b d = false) (ne : b ≠ d) : b ∈ line.reverse.take i := by
  have hi : i < line.length := by have := (List.getElem?_eq_some_iff.mp hd).1; rwa [List.length_reverse] at this
  obtain ⟨j, hj, ej⟩ := List.getElem_of_mem (List.mem_reverse.mpr hb)
  rw [List.length_reverse] at hj
  have o := L.ord
  rw [← List.pairwise_reverse] at o
  rcases Nat.lt_trichotomy j i with c | c | c
  · exact List.mem_of_getElem? (i := j) (by rw [List.getElem?_take, if_pos c, List.getElem?_eq_getElem (by rw [List.length_reverse]; exact hj), ej])
  · subst c
    rw [List.getElem?_eq_getElem (by rw [List.length_reverse]; exact hj)] at hd
    exact absurd (ej.symm.trans (Option.some.inj hd)) ne
  · have di : line.reverse[i]'(by rw [List.length_reverse]; exact hi) = d := by
      rw [List.getElem?_eq_getElem (by rw [List.length_reverse]; exact hi)] at hd
      exact Option.some.inj hd
    have := List.pairwise_iff_getElem.mp o i j (by rw [List.length_reverse]; exact hi) (by rw [List.length_reverse]; exact hj) c
    rw [di, ej] at this
    rw [sLtB_iff.mpr this] at h
    cases h
section
variable {P : Program} {w : World} {K : PySem.W.Frag} {mg : Str → Option Value} {base : Heap}
abbrev NMk : List Str := ["_law_deeds", "_law_found", "_law_some", "_law_deed", "_law_backs", "_law_name", "_law_mine", "_law_back"]
set_option maxHeartbeats 4000000 in
theorem ok_law_marks {f : Addr} {fd : FuncData} (F0 : Fun K "_law_marks" "_law_marks" s_law_marks f fd) (CS : Cal P w K mg base 4 "_law_sorted" ["_law_deeds"] spLawSorted) (CV : Cal P w K mg base 2 "_law_is_void" ["_law_deeds", "_law_back"] spLawIsVoid) :
    FnOk P w K mg base CX0 5 f fd ["_law_deeds"] spLawMarks := by
  obtain ⟨f1, fd1, G1, g1, kp1, b1⟩ := CS
  obtain ⟨f2, fd2, G2, g2, kp2, b2⟩ := CV
  refine F0.ok sc_law_marks (fun vs H Q E h => ?_) (fun cdv A outer s H vs Q E hr h => ?_)
  · obtain ⟨F, v, ds, rfl, _⟩ := h
    rfl
  · obtain ⟨F, v, ds, rfl, fh, ⟨hlist, okd, uq, few⟩, q⟩ := h
    have hr2 : Room 2 _ := hr.mono (by decide)
    have hu := hr.units
    have hu0 : (A.deeper (PyProof.Rows.envOfC "_law_marks" (defScope s_law_marks) s.heap.objs.size f cdv)).units < cLine := by have := hr.un; omega
    have hu1 : (A.deeper (PyProof.Rows.envOfC "_law_marks" (defScope s_law_marks) s.heap.objs.size f cdv)).units + 1 < cLine := by have := hr.un; omega
    refine ⟨_, pss_cons (ps_set (i := 1) sc_law_marks.nd rfl (.inr rfl) pe_dnewT)
      (pss_cons (ps_set (i := 2) sc_law_marks.nd rfl (.inr rfl) (pe_call G1 hr (by rfl) g1 kp1 b1 .nil pass0 (pa_cons (pv 0) pa_nil)))
      (pss_cons (ps_setLc (i := 4) (own := [("_law_deed", 3)]) (g := gName 3) (tt := tAnd (tTest (tOp rEq (tOp (rIxT K) (tOp (rIxT K) (tVar 3) (tC (.int 3))) (tC (.int 0))) (tC (.str "back")))) (tNot (tB (tCall spLawIsVoid [] E0 (tCons (tVar 2) (tCons (tVar 3) tNil)))))) (te := tVar 3) (by rfl) sc_law_marks.nd rfl rfl (sw_true rfl rfl rfl (by decide +kernel)) (pi_list (pv 2))
        (blkOk_by (own := [("_law_deed", 3)]) (N := NMk) (sc := defScope s_law_marks) (by decide +kernel)) (fun _ _ _ _ _ => pg_name (i := 3) sc_law_marks.nd rfl (.inl rfl))
        (fun _ _ _ _ _ => pts_one (PW.pt (pw_and (pt_cmpR op_eq (pe_ix ix_tup (pe_ix ix_tup (pv 3) pe_int (fun _ _ => rfl)) pe_int (fun _ _ => rfl)) pe_str (by rfl)) (pw_and1 (pt_not (pt_val (pe_call G2 hr2 (by rfl) g2 kp2 b2 .nil pass0 (pa_cons (pv 2) (pa_cons (pv 3) pa_nil)))))))))
        (fun _ _ _ _ _ => pv 3))
      (pss_cons (ps_for PassesOwn.never rfl (pi_list (pe_revL (pv 2))) (pg_name (i := 3) sc_law_marks.nd rfl (.inl rfl))
        (pss_cons (ps_set (i := 5) sc_law_marks.nd rfl (.inr rfl) (pe_tup (pa_cons (pe_ix ix_tup (pv 3) pe_int (fun _ _ => rfl)) (pa_cons (pe_ix ix_tup (pv 3) pe_int (fun _ _ => rfl)) pa_nil))))
        (pss_cons (ps_setLc (i := 6) (own := [("_law_back", 7)]) (g := gName 7) (tt := tAnd (tTest (tOp (rEqD K) (tTup (tCons (tOp (rIxT K) (tOp (rIxT K) (tVar 7) (tC (.int 3))) (tC (.int 1))) (tCons (tOp (rIxT K) (tOp (rIxT K) (tVar 7) (tC (.int 3))) (tC (.int 2))) tNil))) (tVar 5))) (tNot (tB (tDGet (tVar 1) (tTup (tCons (tOp (rIxT K) (tVar 7) (tC (.int 0))) (tCons (tOp (rIxT K) (tVar 7) (tC (.int 1))) tNil))))))) (te := tVar 7) (by rfl) sc_law_marks.nd rfl rfl (sw_true rfl rfl rfl (by decide +kernel)) (pi_list (pv 4))
          (blkOk_by (own := [("_law_back", 7)]) (N := NMk) (sc := defScope s_law_marks) (by decide +kernel)) (fun _ _ _ _ _ => pg_name (i := 7) sc_law_marks.nd rfl (.inl rfl))
          (fun _ _ _ _ _ => pts_one (PW.pt (pw_and (pt_cmpR (op_eqD hu) (pe_tup (pa_cons (pe_ix ix_tup (pe_ix ix_tup (pv 7) pe_int (fun _ _ => rfl)) pe_int (fun _ _ => rfl)) (pa_cons (pe_ix ix_tup (pe_ix ix_tup (pv 7) pe_int (fun _ _ => rfl)) pe_int (fun _ _ => rfl)) pa_nil))) (pv 5) (nomark _))
            (pw_and1 (pt_not (pt_val (pe_dget hu1 (pv 1) (pe_tup (pa_cons (pe_ix ix_tup (pv 7) pe_int (fun _ _ => rfl)) (pa_cons (pe_ix ix_tup (pv 7) pe_int (fun _ _ => rfl)) pa_nil))) (fun _ _ => rfl))))))))
          (fun _ _ _ _ _ => pv 7))
        (pss_one (ps_dput hu1 (pv 1) (pv 5) (pe_and (pe_cmpR (op_neL0 hu0) (pv 6) (pe_lst pa_nil) (nomark _)) (pe_one (pe_cmpR op_notIn_seq (pe_ix ix_tup (pe_ix ix_tup (pv 3) pe_int (fun _ _ => rfl)) pe_int (fun _ _ => rfl)) (pe_tup (pa_cons pe_str (pa_cons pe_str pa_nil))) (by rfl)))) rfl)))))
      (pss_one (ps_ret (pv 1)))))), ?_⟩
    obtain ⟨a, xs, rfl, ha, hp⟩ := id hlist
    intro p np
    have fp : F p = none := fh.free np
    have X0 : Ext M0 F H F (upd H p (.dT [])) := (Ext.refl fh).tmp np
    have hp0 : upd H p (.dT []) p = some (.dT []) := upd_same
    revert X0 hp0
    generalize upd H p (.dT []) = H0
    intro X0 hp0
    refine ⟨_, rfl, F, .ref a, ds, rfl, X0.fh, hlist, uq, by omega, fun F1 H1 sa ss line X1 ns fs hs ps hline => ?_⟩
    have L : Line line := line_of hline okd uq (line_few hline few)
    have p1 : H1 p = some (.dT []) := X1.same _ _ hp0
    have psa : p ≠ sa := ne_of_none hp0 ns
    have f1p : F1 p = none := by rw [X1.new p (by rw [hp0]; simp)]; exact fp
    have X2 := (X0.trans X1).frz (X0.free ns) fs hs
    have ks : (kL kDeed).is (upd F1 sa (.lst ss)) (.ref sa) line := kL_new fs ps
    have f2p : upd F1 sa (.lst ss) p = none := by rw [upd_ne psa]; exact f1p
    revert X2 ks f2p
    generalize upd F1 sa (.lst ss) = F2
    intro X2 ks f2p
    clear X1 fs hs ps f1p ns
    obtain ⟨sa', ss', es, hsF, hps⟩ := id ks
    cases es
    have ls : ss'.length = line.length := pr_len hps
    have lf := L.few
    -- backs
    refine ⟨_, rfl, sa, rfl, ⟨ss', SqL.of (X2.fh _ _ hsF)⟩, fun Db nDb => ?_⟩
    have pDb : p ≠ Db := ne_of_none p1 nDb
    refine it_by (walk_list (K := K) (a := sa) (xs := ss')) (fun j H' => ∃ acc : List V, Ext M0 F2 H1 F2 H' ∧ H' Db = some (.lst acc) ∧ Paired (kDeed.is F2) acc ((line.take j).filter (workB line)))
      ⟨[], (Ext.refl X2.fh).tmp nDb, upd_same, .nil⟩ (fun j H' _ ⟨_, X, _⟩ => SqL.of (X.fh _ _ hsF)) ?_ ?_
    · rintro j x _ H3 hj ⟨acc, X3, hD, hac⟩ ⟨rfl, hx⟩
      obtain ⟨d, hd, hxd⟩ := pr_get hps hx
      have dm := List.mem_of_getElem? hd
      obtain ⟨ad, uw, rfl, had, hwd⟩ := id hxd
      obtain ⟨aw, rest, rfl, haw⟩ := what_tup hwd
      have eT : (line.take (j + 1)).filter (workB line) = (line.take j).filter (workB line) ++ [d].filter (workB line) := by
        rw [List.take_add_one, hd, ← List.filter_append]; rfl
      have la : acc.length ≤ 400 := by
        rw [pr_len hac]
        have := List.length_filter_le (workB line) (line.take j)
        have := List.length_take_le' j line
        omega
      have no : workB line d = false → Paired (kDeed.is F2) acc ((line.take (j + 1)).filter (workB line)) := fun z => by
        rw [eT, List.filter_cons_of_neg (by simp [z]), List.filter_nil, List.append_nil]; exact hac
      refine ⟨rfl, _, rfl, ad, _, 3, _, rfl, rfl, SqT.of (X3.fh _ _ had), rfl, aw, _, 0, _, rfl, rfl, SqT.of (X3.fh _ _ haw), atI_nat (j := 0) rfl, rfl, _, rfl, ?_⟩
      rw [word_back]
      cases c : tgt d.w with
      | none => exact ⟨acc, X3, hD, no (by unfold workB; rw [c]; rfl)⟩
      | some q' =>
        refine ⟨_, rfl, _, rfl, F2, .ref sa, .ref ad, line, d, q', rfl, X3.fh, ks, hxd, c, L.ok, fun H4 X4 => ⟨voidP line [] d q', rfl, ?_⟩⟩
        have X5 := X3.trans X4
        have hD4 := X4.same _ _ hD
        have ew : workB line d = !voidP line [] d q' := by rw [workB_back, c]; rfl
        cases z : voidP line [] d q' with
        | true => exact ⟨acc, X5, hD4, no (by rw [ew, z]; rfl)⟩
        | false =>
          refine ⟨_, rfl, acc, hD4, by rw [sizeLine_eq]; omega, acc ++ [.ref ad], X5.put (.inl nDb) (X2.fh.free nDb), upd_same, ?_⟩
          rw [eT, List.filter_cons_of_pos (by rw [ew, z]; rfl)]
          exact pr_snoc hac hxd
    · rintro H3 ⟨accb, X3, hDb, hacb⟩
      rw [ls, List.take_length] at hacb
      have fDb := X2.fh.free nDb
      have X4 := X2.trans (X3.frz nDb fDb hDb)
      have kb : (kL kDeed).is (upd F2 Db (.lst accb)) (.ref Db) (line.filter (workB line)) := kL_new fDb hacb
      have hps4 := pr_mono (fun _ _ z => kDeed.mono (same_upd (o := .lst accb) fDb) z) hps
      have f4p : upd F2 Db (.lst accb) p = none := by rw [upd_ne pDb]; exact f2p
      have p3 : H3 p = some (.dT []) := X3.same _ _ p1
      have hs4 : upd F2 Db (.lst accb) sa = some (.lst ss') := (same_upd (o := .lst accb) fDb) _ _ hsF
      revert X4 kb hps4 f4p hs4
      generalize upd F2 Db (.lst accb) = F4
      intro X4 kb hps4 f4p hs4
      clear X3 hDb hacb ks hps X2 f2p hsF p1
      -- some[::-1]
      refine ⟨_, rfl, sa, ss', rfl, SqL.of (X4.fh _ _ hs4), fun ra nra => ?_⟩
      have pra : p ≠ ra := ne_of_none p3 nra
      have X5 := X4.lay (o := .lst ss'.reverse) nra
      have smr : Same F4 (upd F4 ra (.lst ss'.reverse)) := same_upd (X4.fh.free nra)
      have hrF : upd F4 ra (.lst ss'.reverse) ra = some (.lst ss'.reverse) := upd_same
      have f5p : upd F4 ra (.lst ss'.reverse) p = none := by rw [upd_ne pra]; exact f4p
      have p5 : upd H3 ra (.lst ss'.reverse) p = some (.dT []) := by rw [upd_ne pra]; exact p3
      have kb5 := (kL kDeed).mono smr kb
      have hpr := pr_rev (pr_mono (fun _ _ z => kDeed.mono smr z) hps4)
      revert X5 hrF f5p p5 kb5 hpr
      generalize upd F4 ra (.lst ss'.reverse) = F5
      generalize upd H3 ra (.lst ss'.reverse) = H5
      intro X5 hrF f5p p5 kb5 hpr
      clear X4 smr kb hps4 f4p hs4 p3 nra
      obtain ⟨Db', xb, eb, hbF, hpb⟩ := kb5
      cases eb
      have lb : xb.length ≤ 400 := by
        rw [pr_len hpb]
        have := List.length_filter_le (workB line) line
        omega
      refine ⟨ra, rfl, ⟨ss'.reverse, SqL.of (X5.fh _ _ hrF)⟩, for_list (K := K) (a := ra) (xs := ss'.reverse) (fun i σ H' => ∃ y3 y5 y6 kvs, σ = [some (.ref a), some (.ref p), some (.ref sa), y3, some (.ref Db), y5, y6, none] ∧ Ext M0 F H F5 H' ∧ H' p = some (.dT kvs) ∧ kvs.length ≤ i ∧ ∀ d ∈ line.reverse.take i, valV kvs (kk (name d)) = some (.bl (!standB line [] d)))
        ⟨none, none, none, [], rfl, X5, p5, Nat.le_refl _, fun d hd => absurd hd (by simp)⟩ (fun i σ H' _ ⟨_, _, _, _, _, X, _⟩ => SqL.of (X.fh _ _ hrF)) ?_ ?_⟩
      · rintro i x σ H6 hi ⟨y3, y5, y6, kvs, rfl, X6, hp6, lk, hkv⟩
        obtain ⟨d, hd, hxd⟩ := pr_get hpr hi
        have dm : d ∈ line := List.mem_reverse.mp (List.mem_of_getElem? hd)
        obtain ⟨ad, uw, rfl, had, hwd⟩ := id hxd
        obtain ⟨aw, rest, rfl, haw⟩ := what_tup hwd
        have il : i < 400 := by
          have := (List.getElem?_eq_some_iff.mp hd).1
          rw [List.length_reverse] at this
          omega
        -- name
        refine ⟨_, rfl, ad, _, 0, _, rfl, rfl, SqT.of (X6.fh _ _ had), rfl, _, rfl, ad, _, 1, _, rfl, rfl, SqT.of (X6.fh _ _ had), rfl, by show 2 ≤ sizeLine; decide, fun nm nnm => ?_⟩
        have pnm : p ≠ nm := ne_of_none hp6 nnm
        have X7 := X6.tmp (o := .tup [.int d.h, .int d.n]) nnm
        have hnm : upd H6 nm (.tup [.int d.h, .int d.n]) nm = some (.tup [.int d.h, .int d.n]) := upd_same
        have hp7 : upd H6 nm (.tup [.int d.h, .int d.n]) p = some (.dT kvs) := by rw [upd_ne pnm]; exact hp6
        revert X7 hnm hp7
        generalize upd H6 nm (.tup [.int d.h, .int d.n]) = H7
        intro X7 hnm hp7
        -- mine
        refine ⟨_, rfl, Db, rfl, ⟨xb, SqL.of (X7.fh _ _ hbF)⟩, fun Dm nDm => ?_⟩
        refine it_by (walk_list (K := K) (a := Db) (xs := xb)) (fun j H' => ∃ acc : List V, Ext M0 F5 H7 F5 H' ∧ H' Dm = some (.lst acc) ∧ acc.isEmpty = (!((line.filter (workB line)).take j).any fun b => decide (tgt b.w = some (name d)) && standB line [] b) ∧ acc.length ≤ j)
          ⟨[], (Ext.refl X7.fh).tmp nDm, upd_same, rfl, Nat.le_refl _⟩ (fun j H' _ ⟨_, X, _⟩ => SqL.of (X.fh _ _ hbF)) ?_ ?_
        · rintro j x _ H8 hj ⟨acc, X8, hD, hac, hl⟩ ⟨rfl, hx⟩
          obtain ⟨b, hb, hxb⟩ := pr_get hpb hx
          obtain ⟨bm, bw⟩ := List.mem_filter.mp (List.mem_of_getElem? hb)
          obtain ⟨ab, ub, rfl, hab, hwb⟩ := hxb
          obtain ⟨q', hq⟩ : ∃ q', tgt b.w = some q' := by
            unfold workB at bw
            rw [Bool.and_eq_true] at bw
            exact Option.isSome_iff_exists.mp bw.1
          have vb : voidB line [] b = false := by
            unfold workB at bw
            rw [Bool.and_eq_true, Bool.not_eq_true'] at bw
            exact bw.2
          have ew := tgt_back hq
          rw [ew] at hwb
          obtain ⟨awb, rfl, hawb⟩ := hwb
          have eT : ((line.filter (workB line)).take (j + 1)) = (line.filter (workB line)).take j ++ [b] := by rw [List.take_add_one, hb]; rfl
          have habH := X8.fh _ _ hab
          have hawH := X8.fh _ _ hawb
          refine ⟨rfl, _, rfl, ab, _, 3, _, rfl, rfl, SqT.of habH, rfl, awb, _, 1, _, rfl, rfl, SqT.of hawH, rfl, _, rfl, ab, _, 3, _, rfl, rfl, SqT.of habH, rfl, awb, _, 2, _, rfl, rfl, SqT.of hawH, rfl, by show 2 ≤ sizeLine; decide, fun t nt => ?_⟩
          have X9 := X8.tmp (o := .tup [.int q'.1, .int q'.2]) nt
          have hD9 : upd H8 t (.tup [.int q'.1, .int q'.2]) Dm = some (.lst acc) := by rw [upd_ne (ne_of_none hD nt)]; exact hD
          have hnm9 := X9.same _ _ hnm
          refine ⟨_, rfl, dPt q', dPt (name d), enc_pt.dp (Same.refl _) ⟨t, rfl, upd_same⟩, enc_pt.dp (Same.refl _) ⟨nm, rfl, hnm9⟩, shaped_pt10 _, shaped_pt10 _, ?_⟩
          rw [eqv_pt2]
          revert X9 hD9 hnm9
          generalize upd H8 t (.tup [.int q'.1, .int q'.2]) = H9
          intro X9 hD9 hnm9
          by_cases c : q' = name d
          · rw [decide_eq_true c]
            subst c
            refine ⟨_, rfl, iteT ?_⟩
            have before : b ∈ line.reverse.take i := by
              have sl : sLtB d b = true := by
                cases z : sLtB d b with
                | true => rfl
                | false =>
                  exfalso
                  unfold voidB at vb
                  rw [hq] at vb
                  dsimp only at vb
                  unfold voidP at vb
                  rw [Bool.or_eq_false_iff] at vb
                  have := List.any_eq_false.mp vb.2 d dm
                  rw [decide_eq_true rfl, z] at this
                  simp at this
              refine rev_mem L hd bm ?_ fun e => ?_
              · cases z : sLtB b d with
                | false => rfl
                | true => exact (sLt_irr (sLtB_iff.mp z) (sLtB_iff.mp sl)).elim
              · subst e; exact sLt_irr (sLtB_iff.mp sl) (sLtB_iff.mp sl)
            refine ⟨_, rfl, _, rfl, ab, _, 0, _, rfl, rfl, SqT.of (X9.fh _ _ hab), rfl, _, rfl, ab, _, 1, _, rfl, rfl, SqT.of (X9.fh _ _ hab), rfl, by show 2 ≤ sizeLine; decide, fun t2 nt2 => ?_⟩
            have XA := X9.tmp (o := .tup [.int b.h, .int b.n]) nt2
            have hDA : upd H9 t2 (.tup [.int b.h, .int b.n]) Dm = some (.lst acc) := by rw [upd_ne (ne_of_none hD9 nt2)]; exact hD9
            have hpA := XA.same _ _ hp7
            refine ⟨p, .bl (!standB line [] b), rfl, hkv b before ▸ DGet.t (k := kk (name b)) hpA upd_same, (!standB line [] b), rfl, ?_⟩
            cases z : standB line [] b with
            | false =>
              refine ⟨acc, XA, hDA, ?_, by omega⟩
              rw [eT, List.any_append, hac]
              simp [z]
            | true =>
              refine ⟨_, rfl, acc, hDA, by rw [sizeLine_eq]; have := (List.getElem?_eq_some_iff.mp hx).1; omega, acc ++ [.ref ab], XA.put (.inl nDm) (X7.fh.free nDm), upd_same, ?_, by simp; omega⟩
              rw [eT, List.any_append]
              simp [z, hq]
          · rw [decide_eq_false c]
            refine ⟨_, rfl, iteF ⟨acc, X9, hD9, ?_, by omega⟩⟩
            rw [eT, List.any_append, hac]
            have : ¬ tgt b.w = some (name d) := fun e => c (by rw [hq] at e; exact Option.some.inj e)
            simp [this]
        · rintro H8 ⟨acc, X8, hD, hac, hl⟩
          rw [pr_len hpb, List.take_length] at hac
          have estand := stand_rule L d
          -- found[name] = ..
          refine ⟨_, rfl, Nat.zero_le _, fun e0 ne0 => ?_⟩
          have hD9 : upd H8 e0 (.lst []) Dm = some (.lst acc) := by rw [upd_ne (ne_of_none hD ne0)]; exact hD
          have X9 := X8.tmp (o := .lst []) ne0
          refine ⟨Dm, e0, acc, rfl, rfl, SqL.of hD9, SqL.of upd_same, ?_⟩
          revert hD9 X9
          generalize upd H8 e0 (.lst []) = H9
          intro hD9 X9
          have fin : ∀ (H' : Hp) (bb : Bool), Ext M0 F5 H7 F5 H' → bb = (!standB line [] d) → ∃ y3 y5 y6 kvs', ([some (V.ref a), some (.ref p), some (.ref sa), some (.ref ad), some (.ref Db), some (.ref nm), some (.ref Dm), none] : List (Option V)) = [some (.ref a), some (.ref p), some (.ref sa), y3, some (.ref Db), y5, y6, none] ∧ Ext M0 F H F5 (upd H' p (.dT (putK kvs (kk (name d)) (.bl bb)))) ∧ upd H' p (.dT (putK kvs (kk (name d)) (.bl bb))) p = some (.dT kvs') ∧ kvs'.length ≤ i + 1 ∧ ∀ e ∈ line.reverse.take (i + 1), valV kvs' (kk (name e)) = some (.bl (!standB line [] e)) := fun H' bb X' eb => by
            refine ⟨_, _, _, putK kvs (kk (name d)) (.bl bb), rfl, (X7.trans X').put (.inl np) f5p, upd_same, by have := putK_le kvs (kk (name d)) (.bl bb); omega, fun e he => ?_⟩
            rw [valV_put]
            rw [List.take_add_one, hd] at he
            by_cases c : kk (name e) = kk (name d)
            · rw [if_pos c]
              have em : e ∈ line := by
                rcases List.mem_append.mp he with h | h
                · exact List.mem_reverse.mp (List.mem_of_mem_take h)
                · rw [show e = d by simpa using h]; exact dm
              have : e = d := L.uq e em d dm (kk_inj c)
              rw [this, eb]
            · rw [if_neg c]
              rcases List.mem_append.mp he with h | h
              · exact hkv e h
              · exact absurd (by rw [show e = d by simpa using h]) c
          have hpp : ∀ H', Ext M0 F5 H7 F5 H' → H' p = some (.dT kvs) ∧ H' nm = some (.tup [.int d.h, .int d.n]) := fun H' X' => ⟨X'.same _ _ hp7, X'.same _ _ hnm⟩
          have lk' : kvs.length < sizeLine := by rw [sizeLine_eq]; omega
          rw [hac, Bool.not_not]
          cases z : (line.filter (workB line)).any fun b => decide (tgt b.w = some (name d)) && standB line [] b with
          | false =>
            rw [z] at estand
            refine ⟨_, rfl, iteF ?_⟩
            obtain ⟨h1, h2⟩ := hpp _ X9
            refine ⟨_, rfl, _, rfl, p, _, rfl, DPut.t (k := kk (name d)) h1 h2 lk', ?_⟩
            exact fin _ false X9 (by rw [estand]; simp)
          | true =>
            rw [z] at estand
            refine ⟨_, rfl, iteT ?_⟩
            refine ⟨_, rfl, ad, _, 3, _, rfl, rfl, SqT.of (X9.fh _ _ had), rfl, aw, _, 0, _, rfl, rfl, SqT.of (X9.fh _ _ haw), atI_nat (j := 0) rfl, by show 2 ≤ sizeLine; decide, fun t5 nt5 => ?_⟩
            refine ⟨t5, [.str "seal", .str "bye"], rfl, .inr (SqT.of upd_same), rfl, rfl, ?_⟩
            have XA := X9.tmp (o := .tup [.str "seal", .str "bye"]) nt5
            obtain ⟨h1, h2⟩ := hpp _ XA
            refine ⟨_, rfl, _, rfl, p, _, rfl, DPut.t (k := kk (name d)) h1 h2 lk', ?_⟩
            refine fin _ _ XA ?_
            rw [estand, if_pos rfl, word_lasting]
            simp
      · rintro σ H6 ⟨y3, y5, y6, kvs, rfl, X6, hp6, lk, hkv⟩
        rw [pr_len hpr, List.take_length] at hkv
        exact ⟨_, rfl, q F5 H6 p kvs line X6 np f5p hp6 hline fun d hd => hkv d (List.mem_reverse.mpr hd)⟩
end
end Rw
namespace Rw
open PySem L2
section
variable {P : Program} {w : World} {K : PySem.W.Frag} {mg : Str → Option Value} {base : Heap}
abbrev NAl : List Str := ["_law_deeds", "_law_marks_here", "_law_deed"]
theorem ok_law_alive {f : Addr} {fd : FuncData} (F0 : Fun K "_law_alive" "_law_alive" s_law_alive f fd) (CM : Cal P w K mg base 5 "_law_marks" ["_law_deeds"] spLawMarks) (CS : Cal P w K mg base 4 "_law_sorted" ["_law_deeds"] spLawSorted) :
    FnOk P w K mg base CX0 6 f fd ["_law_deeds"] spLawAlive := by
  obtain ⟨f1, fd1, G1, g1, kp1, b1⟩ := CM
  obtain ⟨f2, fd2, G2, g2, kp2, b2⟩ := CS
  refine F0.ok sc_law_alive (fun vs H Q E h => ?_) (fun cdv A outer s H vs Q E hr h => ?_)
  · obtain ⟨F, v, ds, rfl, _⟩ := h
    rfl
  · obtain ⟨F, v, ds, rfl, fh, T1, q⟩ := h
    have hr4 : Room 4 _ := hr.mono (by decide)
    have hu1 : (A.deeper (PyProof.Rows.envOfC "_law_alive" (defScope s_law_alive) s.heap.objs.size f cdv)).units + 1 < cLine := by have := hr.un; omega
    refine ⟨_, pss_cons (ps_set (i := 1) sc_law_alive.nd rfl (.inr rfl) (pe_call G1 hr (by rfl) g1 kp1 b1 .nil pass0 (pa_cons (pv 0) pa_nil)))
      (pss_one (ps_ret (pe_lc (own := [("_law_deed", 2)]) (g := gName 2) (tt := tNot (tB (tDGet (tVar 1) (tTup (tCons (tOp (rIxT K) (tVar 2) (tC (.int 0))) (tCons (tOp (rIxT K) (tVar 2) (tC (.int 1))) tNil)))))) (te := tVar 2) (by rfl) sc_law_alive.nd (pi_list (pe_call G2 hr4 (by rfl) g2 kp2 b2 .nil pass0 (pa_cons (pv 0) pa_nil)))
        (blkOk_by (own := [("_law_deed", 2)]) (N := NAl) (sc := defScope s_law_alive) (by decide +kernel)) (fun _ _ _ _ _ => pg_name (i := 2) sc_law_alive.nd rfl (.inl rfl))
        (fun _ _ _ _ _ => pts_one (pt_not (pt_val (pe_dget hu1 (pv 1) (pe_tup (pa_cons (pe_ix ix_tup (pv 2) pe_int (fun _ _ => rfl)) (pa_cons (pe_ix ix_tup (pv 2) pe_int (fun _ _ => rfl)) pa_nil))) (fun _ _ => rfl)))))
        (fun _ _ _ _ _ => pv 2)))), ?_⟩
    refine ⟨_, rfl, F, v, ds, rfl, fh, T1, fun F1 H1 p kvs line X1 np fp hp hline hkv => ?_⟩
    refine ⟨_, rfl, F1, v, ds, rfl, X1.fh, (kL kDeed).mono X1.ff T1.list, T1.uq, by have := T1.few; omega, fun F2 H2 sa ss line2 X2 ns fs hs ps hline2 => ?_⟩
    have el := hline2.uniq hline
    subst el
    have L : Line line2 := line_of hline T1.ok T1.uq (line_few hline T1.few)
    have lf := L.few
    have p2 : H2 p = some (.dT kvs) := X2.same _ _ hp
    have X3 := X1.trans X2
    refine ⟨sa, rfl, ⟨ss, SqL.of hs⟩, fun D nD => ?_⟩
    have saD : sa ≠ D := ne_of_none hs nD
    refine it_by (walk_list (K := K) (a := sa) (xs := ss)) (fun j H' => ∃ acc : List V, Ext M0 F2 H2 F2 H' ∧ H' D = some (.lst acc) ∧ Paired (kDeed.is F2) acc ((line2.take j).filter (standB line2 [])))
      ⟨[], (Ext.refl X3.fh).tmp nD, upd_same, .nil⟩ (fun j H' _ ⟨_, X, _⟩ => SqL.of (X.same _ _ hs)) ?_ ?_
    · rintro j x _ H4 hj ⟨acc, X4, hD, hac⟩ ⟨rfl, hx⟩
      obtain ⟨d, hd, hxd⟩ := pr_get ps hx
      have dm := List.mem_of_getElem? hd
      obtain ⟨ad, uw, rfl, had, hwd⟩ := id hxd
      have eT : (line2.take (j + 1)).filter (standB line2 []) = (line2.take j).filter (standB line2 []) ++ [d].filter (standB line2 []) := by
        rw [List.take_add_one, hd, ← List.filter_append]; rfl
      have la : acc.length ≤ 400 := by
        rw [pr_len hac]
        have := List.length_filter_le (standB line2 []) (line2.take j)
        have := List.length_take_le' j line2
        omega
      have hadH := X4.fh _ _ had
      refine ⟨rfl, _, rfl, _, rfl, ad, _, 0, _, rfl, rfl, SqT.of hadH, rfl, _, rfl, ad, _, 1, _, rfl, rfl, SqT.of hadH, rfl, by show 2 ≤ sizeLine; decide, fun t nt => ?_⟩
      have X5 := X4.tmp (o := .tup [.int d.h, .int d.n]) nt
      have hD5 : upd H4 t (.tup [.int d.h, .int d.n]) D = some (.lst acc) := by rw [upd_ne (ne_of_none hD nt)]; exact hD
      refine ⟨p, .bl (!standB line2 [] d), rfl, hkv d dm ▸ DGet.t (k := kk (name d)) (X5.same _ _ p2) upd_same, (!standB line2 [] d), rfl, ?_⟩
      cases z : standB line2 [] d with
      | false =>
        refine ⟨acc, X5, hD5, ?_⟩
        rw [eT, List.filter_cons_of_neg (by simp [z]), List.filter_nil, List.append_nil]; exact hac
      | true =>
        refine ⟨_, rfl, acc, hD5, by rw [sizeLine_eq]; omega, acc ++ [.ref ad], X5.put (.inl nD) (X3.fh.free nD), upd_same, ?_⟩
        rw [eT, List.filter_cons_of_pos z]
        exact pr_snoc hac hxd
    · rintro H4 ⟨acc, X4, hD, hac⟩
      rw [pr_len ps, List.take_length] at hac
      exact q F2 H4 D acc _ (X3.trans X4) (X3.free nD) (X3.ffree nD) hD hac ⟨line2, hline, rfl⟩
set_option maxHeartbeats 1000000 in
theorem ok_law_worths {f : Addr} {fd : FuncData} (F0 : Fun K "_law_worths" "_law_worths" s_law_worths f fd) (CA : Cal P w K mg base 6 "_law_alive" ["_law_deeds"] spLawAlive) :
    FnOk P w K mg base CX0 7 f fd ["_law_deeds"] spLawWorths := by
  obtain ⟨f1, fd1, G1, g1, kp1, b1⟩ := CA
  refine F0.ok sc_law_worths (fun vs H Q E h => ?_) (fun cdv A outer s H vs Q E hr h => ?_)
  · obtain ⟨F, v, ds, rfl, _⟩ := h
    rfl
  · obtain ⟨F, v, ds, rfl, fh, T1, q⟩ := h
    refine ⟨_, pss_cons (ps_set (i := 1) sc_law_worths.nd rfl (.inl rfl) (pe_op op_rep (pe_lst (pa_cons pe_int pa_nil)) pe_int))
      (pss_cons (ps_for PassesOwn.never rfl (pi_list (pe_call G1 hr (by rfl) g1 kp1 b1 .nil pass0 (pa_cons (pv 0) pa_nil))) (pg_tup (by rfl) (pgs_cons (pg_name (i := 2) sc_law_worths.nd rfl (.inl rfl)) (pgs_cons (pg_name (i := 3) sc_law_worths.nd rfl (.inl rfl)) (pgs_cons (pg_name (i := 4) sc_law_worths.nd rfl (.inl rfl)) (pgs_cons (pg_name (i := 5) sc_law_worths.nd rfl (.inl rfl)) pgs_nil)))))
        (pss_cons (ps_if (pt_cmpR op_eq (pe_ix ix_tup (pv 5) pe_int (fun _ _ => rfl)) pe_str (nomark _))
          (pss_one (ps_asg (pe_ix ix_tup (pv 5) pe_int (fun _ _ => rfl)) (pg_sub (pv 1) (pe_ix ix_tup (pv 5) pe_int (fun _ _ => rfl)) set_list))) pss_nil)
        (pss_one (ps_if (pt_cmpR op_eq (pe_ix ix_tup (pv 5) pe_int (fun _ _ => rfl)) pe_str (nomark _))
          (pss_one (ps_asg (pe_op op_add (pe_ix ix_list (pv 1) (pe_ix ix_tup (pv 5) pe_int (fun _ _ => rfl)) (fun _ _ => rfl)) (pe_ix ix_tup (pv 5) pe_int (fun _ _ => rfl))) (pg_sub (pv 1) (pe_ix ix_tup (pv 5) pe_int (fun _ _ => rfl)) set_list))) pss_nil))))
      (pss_one (ps_ret (pv 1)))), ?_⟩
    refine ⟨by show 1 ≤ sizeLine; decide, fun l nl => ⟨l, _, _, rfl, rfl, upd_same, by decide, by decide, by decide, fun o no => ?_⟩⟩
    have X0 := ((Ext.refl (M := M0) fh).tmp (o := .lst [.int 0]) nl).tmp (o := .lst (zeros.map V.int)) no
    have ho0 : upd (upd H l (.lst [.int 0])) o (.lst (zeros.map V.int)) o = some (.lst (zeros.map V.int)) := upd_same
    have Ho : H o = none := ((Ext.refl (M := M0) fh).tmp (o := .lst [.int 0]) nl).free no
    show tSeq _ _ _ (List.set _ _ _) (upd (upd H l (.lst [.int 0])) o (.lst (zeros.map V.int)))
    revert X0 ho0
    generalize upd (upd H l (.lst [.int 0])) o (.lst (zeros.map V.int)) = H0
    intro X0 ho0
    refine ⟨_, rfl, F, v, ds, rfl, X0.fh, T1, fun F2 H2 sa ss st X2 ns fs hs ps hst => ?_⟩
    obtain ⟨line, hline, est⟩ := hst
    have L : Line line := line_of hline T1.ok T1.uq (line_few hline T1.few)
    have okS : ∀ d ∈ st, DeedOk d := fun d hd => by rw [est] at hd; exact L.ok d (List.mem_filter.mp hd).1
    have ho2 : H2 o = some (.lst (zeros.map V.int)) := X2.same _ _ ho0
    have fo2 : F2 o = none := by rw [X2.new o (by rw [ho0]; simp)]; exact fh.free Ho
    have os : o ≠ sa := ne_of_none ho0 ns
    have X3 := (X0.trans X2).frz (X0.free ns) fs hs
    have hs3 : upd F2 sa (.lst ss) sa = some (.lst ss) := upd_same
    have ps3 := pr_mono (fun _ _ z => kDeed.mono (same_upd (o := .lst ss) fs) z) ps
    have fo3 : upd F2 sa (.lst ss) o = none := by rw [upd_ne os]; exact fo2
    revert X3 hs3 ps3 fo3
    generalize upd F2 sa (.lst ss) = F3
    intro X3 hs3 ps3 fo3
    clear X2 X0 ho0 fo2 hs ps fs ns
    refine ⟨sa, rfl, ⟨_, SqL.of (X3.fh _ _ hs3)⟩, for_list (K := K) (a := sa) (xs := ss) (fun i σ H' => ∃ (y2 y3 y4 y5 : Option V) (out : List Int), σ = [some v, some (.ref o), y2, y3, y4, y5] ∧ Ext M0 F H F3 H' ∧ H' o = some (.lst (out.map V.int)) ∧ out = (st.take i).foldl worthStep zeros ∧ out.length = 6)
      ⟨_, _, _, _, zeros, rfl, X3, ho2, rfl, rfl⟩ (fun i σ H' _ ⟨_, _, _, _, _, _, X, _⟩ => SqL.of (X.fh _ _ hs3)) ?_ ?_⟩
    · rintro i x σ H4 hi ⟨y2, y3, y4, y5, out, rfl, X4, ho, eo, lo⟩
      obtain ⟨d, hd, kd⟩ := pr_get ps3 hi
      have ok := (okS d (List.mem_of_getElem? hd)).w
      have eF : (st.take (i + 1)).foldl worthStep zeros = worthStep out d := by
        rw [List.take_add_one, hd, List.foldl_append, ← eo]; rfl
      obtain ⟨da, u', rfl, hda, hw'⟩ := kd
      refine ⟨da, _, rfl, SqT.of (X4.fh _ _ hda), rfl, _, _, rfl, _, _, rfl, _, _, rfl, _, _, rfl, rfl, ?_⟩
      have put : ∀ (k : Nat) (z : Int), k < 6 → Ext M0 F H F3 (upd H4 o (.lst ((out.map V.int).set k (.int z)))) ∧ upd H4 o (.lst ((out.map V.int).set k (.int z))) o = some (.lst ((out.set k z).map V.int)) := fun k z _ =>
        ⟨X4.put (.inl Ho) fo3, by rw [upd_same, List.map_set]⟩
      cases hw : d.w with
      | chg bb k x =>
        rw [hw] at hw' ok
        obtain ⟨wa, rfl, hwa⟩ := hw'
        obtain ⟨k0, k5, _, _⟩ := ok
        have hwH := X4.fh _ _ hwa
        have ix : ixN (out.map V.int).length k = some k.toNat := by
          unfold ixN
          rw [List.length_map, if_pos k0, if_pos (by omega)]
        cases bb with
        | false =>
          refine ⟨_, rfl, wa, _, 0, _, rfl, rfl, SqT.of hwH, rfl, rfl, true, by decide, iteT ?_⟩
          refine ⟨_, rfl, wa, _, 2, _, rfl, rfl, SqT.of hwH, rfl, _, rfl, _, rfl, wa, _, 1, _, rfl, rfl, SqT.of hwH, rfl, o, _, k, k.toNat, rfl, rfl, ho, ix, ?_⟩
          obtain ⟨X5, ho5⟩ := put k.toNat x (by omega)
          have ow : wa ≠ o := fun e => by rw [e] at hwa; rw [fo3] at hwa; cases hwa
          refine ⟨_, rfl, wa, _, 0, _, rfl, rfl, SqT.of (X5.fh _ _ hwa), rfl, rfl, false, by decide, iteF ?_⟩
          refine ⟨_, _, _, _, out.set k.toNat x, rfl, X5, ho5, ?_, by rw [List.length_set]; exact lo⟩
          rw [eF]; unfold worthStep; rw [hw]
        | true =>
          refine ⟨_, rfl, wa, _, 0, _, rfl, rfl, SqT.of hwH, rfl, rfl, false, by decide, iteF ?_⟩
          refine ⟨_, rfl, wa, _, 0, _, rfl, rfl, SqT.of hwH, rfl, rfl, true, by decide, iteT ?_⟩
          obtain ⟨z, hz⟩ : ∃ z, out[k.toNat]? = some z := ⟨_, List.getElem?_eq_getElem (by omega)⟩
          have at' : atI (out.map V.int) k = some (.int z) := by
            unfold atI
            rw [ix]
            show (out.map V.int)[k.toNat]? = _
            rw [List.getElem?_map, hz]; rfl
          refine ⟨_, rfl, _, rfl, wa, _, 1, _, rfl, rfl, SqT.of hwH, rfl, o, _, k, _, rfl, rfl, SqL.of ho, at', _, rfl, wa, _, 2, _, rfl, rfl, SqT.of hwH, rfl, _, _, rfl, rfl, _, rfl, _, rfl, wa, _, 1, _, rfl, rfl, SqT.of hwH, rfl, o, _, k, k.toNat, rfl, rfl, ho, ix, ?_⟩
          obtain ⟨X5, ho5⟩ := put k.toNat (z + x) (by omega)
          refine ⟨_, _, _, _, out.set k.toNat (z + x), rfl, X5, ho5, ?_, by rw [List.length_set]; exact lo⟩
          rw [eF]; unfold worthStep; rw [hw]
          show _ = out.set k.toNat (out.getD k.toNat 0 + x)
          rw [List.getD_eq_getElem?_getD, hz]; rfl
      | back k n =>
        rw [hw] at hw'
        obtain ⟨wa, rfl, hwa⟩ := hw'
        have hwH := X4.fh _ _ hwa
        refine ⟨_, rfl, wa, _, 0, _, rfl, rfl, SqT.of hwH, rfl, rfl, false, by decide, iteF ?_⟩
        refine ⟨_, rfl, wa, _, 0, _, rfl, rfl, SqT.of hwH, rfl, rfl, false, by decide, iteF ?_⟩
        exact ⟨_, _, _, _, out, rfl, X4, ho, by rw [eF]; unfold worthStep; rw [hw], lo⟩
      | shut rows =>
        rw [hw] at hw'
        obtain ⟨wa, _, rfl, hwa, _⟩ := hw'
        have hwH := X4.fh _ _ hwa
        refine ⟨_, rfl, wa, _, 0, _, rfl, rfl, SqT.of hwH, rfl, rfl, false, by decide, iteF ?_⟩
        refine ⟨_, rfl, wa, _, 0, _, rfl, rfl, SqT.of hwH, rfl, rfl, false, by decide, iteF ?_⟩
        exact ⟨_, _, _, _, out, rfl, X4, ho, by rw [eF]; unfold worthStep; rw [hw], lo⟩
      | bye =>
        rw [hw] at hw'
        obtain ⟨wa, rfl, hwa⟩ := hw'
        have hwH := X4.fh _ _ hwa
        refine ⟨_, rfl, wa, _, 0, _, rfl, rfl, SqT.of hwH, rfl, rfl, false, by decide, iteF ?_⟩
        refine ⟨_, rfl, wa, _, 0, _, rfl, rfl, SqT.of hwH, rfl, rfl, false, by decide, iteF ?_⟩
        exact ⟨_, _, _, _, out, rfl, X4, ho, by rw [eF]; unfold worthStep; rw [hw], lo⟩
    · rintro σ H4 ⟨y2, y3, y4, y5, out, rfl, X4, ho, eo, lo⟩
      rw [pr_len ps3, List.take_length] at eo
      refine ⟨_, rfl, q F3 H4 o (out.map V.int) out X4 Ho fo3 ho (pr_ints out) ⟨line, hline, ?_⟩⟩
      rw [eo, est]; rfl
end
end Rw
namespace Rw
open PySem L2
open GxR (TabB TabG Tabbed)
/-! ### the law's own state -/
structure L9 (K : PySem.W.Frag) (d s : Addr) (ns : List Int) (Pc : Addr) (F H : Hp) : Prop where
  dice : DiceAt K F H d s ns
  tab : TabG H Pc
  fP : F Pc = none
section
variable {K : PySem.W.Frag} {d s : Addr} {ns : List Int} {Pc : Addr} {F H F' H' : Hp}
theorem L9.same (L : L9 K d s ns Pc F H) : Same F H := L.dice.fh
theorem L9.nd (L : L9 K d s ns Pc F H) : Pc ≠ d := by
  obtain ⟨pp, hp, ht⟩ := L.tab
  obtain ⟨i, m, r, hd, g⟩ := L.dice.ex
  exact fun e => by rw [e, hd] at hp; cases hp
theorem L9.step (L : L9 K d s ns Pc F H) (X : Ext M0 F H F' H') : L9 K d s ns Pc F' H' := by
  obtain ⟨pp, hp, ht⟩ := L.tab
  exact ⟨L.dice.step X, ⟨pp, X.same _ _ hp, ht⟩, by rw [X.new Pc (by rw [hp]; simp)]; exact L.fP⟩
theorem L9.drawn (L : L9 K d s ns Pc F H) (X : XD d F H F' H') (D : DiceAt K F' H' d s ns) : L9 K d s ns Pc F' H' := by
  obtain ⟨pp, hp, ht⟩ := L.tab
  exact ⟨D, ⟨pp, X.hh _ _ hp L.nd, ht⟩, by rw [X.nw Pc _ hp (fun _ => by simp) L.nd]; exact L.fP⟩
theorem L9.gs (L : L9 K d s ns Pc F H) (G : GS Pc F H F' H') : L9 K d s ns Pc F' H' := by
  obtain ⟨i, m, r, hd, g⟩ := L.dice.ex
  have X := G.ext
  exact ⟨⟨X.fh, by rw [X.new d (by rw [hd]; simp)]; exact L.dice.fd, X.ff.seq L.dice.sc, ⟨i, m, r, X.hh _ _ hd fun e => L.nd e.symm, g⟩⟩, G.tab, G.fP⟩
theorem L9.lay {p : Addr} {o : HO} (L : L9 K d s ns Pc F H) (np : H p = none) : L9 K d s ns Pc (upd F p o) (upd H p o) ∧ Same F (upd F p o) :=
  ⟨L.step ((Ext.refl L.same).lay np), same_upd (L.same.free np)⟩
theorem L9.tmp {p : Addr} {o : HO} (L : L9 K d s ns Pc F H) (np : H p = none) : L9 K d s ns Pc F (upd H p o) := L.step ((Ext.refl L.same).tmp np)
theorem L9.put {p : Addr} {xs ys : List V} (L : L9 K d s ns Pc F H) (f : F p = none) (n : d ≠ p) (h : H p = some (.lst xs)) : L9 K d s ns Pc F (upd H p (.lst ys)) := by
  obtain ⟨pp, hp, ht⟩ := L.tab
  exact ⟨L.dice.set n f, ⟨pp, by rw [upd_ne (fun e => by rw [e, h] at hp; cases hp)]; exact hp, ht⟩, L.fP⟩
theorem L9.fz {p : Addr} {xs : List V} (L : L9 K d s ns Pc F H) (f : F p = none) (n : d ≠ p) (h : H p = some (.lst xs)) : L9 K d s ns Pc (upd F p (.lst xs)) H ∧ Same F (upd F p (.lst xs)) := by
  obtain ⟨pp, hp, ht⟩ := L.tab
  exact ⟨⟨L.dice.fzX n f h, L.tab, by rw [upd_ne (fun e => by rw [e, h] at hp; cases hp)]; exact L.fP⟩, same_upd f⟩
/-- back to an earlier frame -/
theorem L9.back {F0 : Hp} (L : L9 K d s ns Pc F H) (s0 : Same F0 F) (sc : SqL K F0 s (ns.map V.int)) : L9 K d s ns Pc F0 H :=
  ⟨⟨s0.trans L.dice.fh, s0.free L.dice.fd, sc, L.dice.ex⟩, L.tab, s0.free L.fP⟩
theorem L9.retP {α : Type} {k : Kd α} {φ : List α → Prop} {Q : VK} (L : L9 K d s ns Pc F H) (h : ∀ (F' H' : Hp) (v : V) (out : List α), L9 K d s ns Pc F' H' → Same F F' → (kL k).is F' v out → φ out → Q v H') : RetP Pc F H k φ Q := fun F' H' a vs xs G na fa ha hp hx =>
  h (upd F' a (.lst vs)) H' (.ref a) xs (L.gs (G.frz na fa ha)) (G.frz na fa ha).ext.ff (kL_new fa hp) hx
theorem L9.kept {α : Type} {k : Kd α} {φ : α → Prop} {Q : VK} (L : L9 K d s ns Pc F H) (h : ∀ (F' H' : Hp) (v : V) (x : α), L9 K d s ns Pc F' H' → Same F F' → k.is F' v x → φ x → Q v H') : Kept K F H d s ns k φ Q := fun F' H' v x X D hk hx =>
  h F' H' v x (L.drawn X D) X.ff hk hx
theorem L9.retN {many : Int} {Q : VK} (L : L9 K d s ns Pc F H) (h : ∀ (z : Int) (H' : Hp), 0 ≤ z → z < many → L9 K d s ns Pc F H' → Q (.int z) H') : RetN K F H d s ns many Q := fun z H' z0 z1 X D =>
  h z H' z0 z1 (L.drawn (.of X) D)
end
/-! ### what is due, as data -/
structure Due where
  w : List Int
  a : List Pt
  v : List Pt
def kDue : Kd Due := ⟨fun F v x => ∃ t u1 u2 u3, v = .ref t ∧ F t = some (.lst [u1, u2, u3]) ∧ (kL kInt).is F u1 x.w ∧ (kL kPt).is F u2 x.a ∧ (kL kPt).is F u3 x.v, fun s ⟨t, u1, u2, u3, e, h, k1, k2, k3⟩ => ⟨t, u1, u2, u3, e, s _ _ h, (kL kInt).mono s k1, (kL kPt).mono s k2, (kL kPt).mono s k3⟩⟩
def dDue (x : Due) : PyData := .list [dL PyData.int x.w, dL dPt x.a, dL dPt x.v]
theorem enc_int : kInt.Enc PyData.int := ⟨fun s h => by cases h; exact .int _⟩
theorem enc_due : kDue.Enc dDue := ⟨fun s ⟨t, u1, u2, u3, e, h, k1, k2, k3⟩ => by
  subst e
  exact .lst (SqL.of (s _ _ h)) (.cons ((enc_L enc_int).dp s k1) (.cons ((enc_L enc_pt).dp s k2) (.cons ((enc_L enc_pt).dp s k3) .nil)))⟩
theorem eqvAll_self {α : Type} {dd : α → PyData} (h : ∀ x, PyData.eqv (dd x) (dd x) = true) : ∀ xs : List α, PyData.eqvAll (xs.map dd) (xs.map dd) = true
  | [] => rfl
  | x :: xs => by rw [List.map_cons, PyData.eqvAll, h, eqvAll_self h xs]; rfl
theorem eqv_int (x : Int) : PyData.eqv (.int x) (.int x) = true := by simp [PyData.eqv]
theorem eqv_pt (p : Pt) : PyData.eqv (dPt p) (dPt p) = true := by simp [dPt, PyData.eqv, PyData.eqvAll]
theorem eqv_ints (xs : List Int) : PyData.eqv (dL PyData.int xs) (dL PyData.int xs) = true := by unfold dL; rw [PyData.eqv]; exact eqvAll_self eqv_int xs
theorem eqv_pts (xs : List Pt) : PyData.eqv (dL dPt xs) (dL dPt xs) = true := by unfold dL; rw [PyData.eqv]; exact eqvAll_self eqv_pt xs
theorem eqv_due (x : Due) : PyData.eqv (dDue x) (dDue x) = true := by
  unfold dDue
  rw [PyData.eqv, PyData.eqvAll, PyData.eqvAll, PyData.eqvAll, PyData.eqvAll, eqv_ints, eqv_pts, eqv_pts]
  rfl
theorem lay_all {α : Type} {dd : α → PyData} {n : Nat} (h : ∀ x, (dd x).canLay0 = true ∧ (dd x).depth ≤ n) : ∀ xs : List α, PyData.canLayAll0 (xs.map dd) = true ∧ PyData.depthAll (xs.map dd) ≤ n
  | [] => ⟨rfl, by simp [PyData.depthAll]⟩
  | x :: xs => by
    obtain ⟨a, b⟩ := lay_all h xs
    obtain ⟨c, e⟩ := h x
    rw [List.map_cons, PyData.canLayAll0, PyData.depthAll, a, c]
    exact ⟨rfl, by omega⟩
theorem lay_int (x : Int) : (PyData.int x).canLay0 = true ∧ (PyData.int x).depth ≤ 1 := ⟨by simp [PyData.canLay0], by simp [PyData.depth]⟩
theorem lay_pt (p : Pt) : (dPt p).canLay0 = true ∧ (dPt p).depth ≤ 1 := ⟨by simp [dPt, PyData.canLay0, PyData.canLayAll0], by simp [dPt, PyData.depth, PyData.depthAll]⟩
theorem lay_L {α : Type} {dd : α → PyData} (h : ∀ x, (dd x).canLay0 = true ∧ (dd x).depth ≤ 1) (xs : List α) : (dL dd xs).canLay0 = true ∧ (dL dd xs).depth ≤ 2 := by
  obtain ⟨a, b⟩ := lay_all h xs
  refine ⟨by unfold dL; rw [PyData.canLay0, a], ?_⟩
  unfold dL
  rw [PyData.depth]
  omega
theorem shaped_of {x : PyData} {n : Nat} (hn : n ≤ 64) (h : x.canLay0 = true ∧ x.depth ≤ n) : SeqAt.shaped x = true := by
  unfold SeqAt.shaped
  rw [h.1]
  simp
  omega
theorem shaped_ints9 (xs : List Int) : SeqAt.shaped (dL PyData.int xs) = true := shaped_of (n := 2) (by decide) (lay_L lay_int xs)
theorem shaped_pts9 (xs : List Pt) : SeqAt.shaped (dL dPt xs) = true := shaped_of (n := 2) (by decide) (lay_L lay_pt xs)
theorem shaped_due (x : Due) : SeqAt.shaped (dDue x) = true := by
  refine shaped_of (n := 3) (by decide) ?_
  obtain ⟨a, b⟩ := lay_L lay_int x.w
  obtain ⟨c, e⟩ := lay_L lay_pt x.a
  obtain ⟨f, g⟩ := lay_L lay_pt x.v
  unfold dDue
  refine ⟨by simp [PyData.canLay0, PyData.canLayAll0, a, c, f], ?_⟩
  simp only [PyData.depth, PyData.depthAll]
  omega
end Rw
namespace Rw
open PySem L2
/-! ### the law's has -/
def spLawHasL : Sp := fun vs H Q _ => ∃ (F : Hp) (v u : V) (rows : List Row) (p : Pt), vs = [v, u] ∧ Same F H ∧ (kL kRow).is F v rows ∧ kPt.is F u p ∧ rows.length ≤ 1000 ∧ ∀ H', Ext M0 F H F H' → Q (.bl (memB rows p)) H'
section
variable {P : Program} {w : World} {K : PySem.W.Frag} {mg : Str → Option Value} {base : Heap}
theorem ok_law_hasL {f : Addr} {fd : FuncData} (F0 : Fun K "_law_has" "_law_has" s_law_has f fd) : FnOk P w K mg base CX0 1 f fd ["_law_rows_here", "_law_name"] spLawHasL := by
  refine F0.ok sc_law_has (fun vs H Q E h => ?_) (fun cdv A outer s H vs Q E hr h => ?_)
  · obtain ⟨F, v, u, rows, p, rfl, _⟩ := h
    rfl
  · obtain ⟨F, v, u, rows, p, rfl, fh, ⟨a, xs, rfl, ha, hp⟩, ⟨tu, rfl, htu⟩, l4, q⟩ := h
    have hu0 : (A.deeper (PyProof.Rows.envOfC "_law_has" (defScope s_law_has) s.heap.objs.size f cdv)).units < cLine := by have := hr.un; omega
    have lx := pr_len hp
    refine ⟨_, pss_one (ps_ret (pe_cmpR (op_neL0 hu0) (pe_lc (own := [("_law_row", 2)]) (g := gName 2)
        (tt := tAnd (tTest (tOp rEq (tOp (rIxT K) (tVar 2) (tC (.int 0))) (tOp (rIxT K) (tVar 1) (tC (.int 0))))) (tTest (tChain (rI0 fun i j => .bl (decide (i ≤ j))) (rI0 fun i j => .bl (decide (i ≤ j))) (tOp (rIxT K) (tVar 2) (tC (.int 1))) (tOp (rIxT K) (tVar 1) (tC (.int 1))) (tOp (rIxT K) (tVar 2) (tC (.int 2)))))) (te := tVar 2)
        (by rfl) sc_law_has.nd (pi_list (pv 0)) (blkOk_by (own := [("_law_row", 2)]) (N := ["_law_rows_here", "_law_name", "_law_row"]) (sc := defScope s_law_has) (by decide +kernel))
        (fun _ _ _ _ _ => pg_name (i := 2) sc_law_has.nd rfl (.inl rfl)) (fun _ _ _ _ _ => pts_one (PW.pt (pw_and (pt_cmpR op_eq (pe_ix ix_tup (pv 2) pe_int (fun _ _ => rfl)) (pe_ix ix_tup (pv 1) pe_int (fun _ _ => rfl)) (by rfl))
          (pw_and1 (pt_chain op_le op_le (pe_ix ix_tup (pv 2) pe_int (fun _ _ => rfl)) (pe_ix ix_tup (pv 1) pe_int (fun _ _ => rfl)) (pe_ix ix_tup (pv 2) pe_int (fun _ _ => rfl)))))))
        (fun _ _ _ _ _ => pv 2)) (pe_lst pa_nil) (nomark _))), ?_⟩
    refine ⟨_, rfl, a, rfl, ⟨_, SqL.of (fh _ _ ha)⟩, fun D nD => ?_⟩
    have fD := fh.free nD
    refine it_by (walk_list (K := K) (a := a) (xs := xs)) (fun i H' => ∃ (acc : List V), Ext M0 F H F H' ∧ H' D = some (.lst acc) ∧ acc.isEmpty = (!(rows.take i).any (inB p.1 p.2)) ∧ acc.length ≤ i)
      ⟨[], (Ext.refl fh).tmp nD, upd_same, rfl, Nat.le_refl _⟩ (fun i H' _ ⟨_, X, _⟩ => SqL.of (X.fh _ _ ha)) ?_ ?_
    · rintro j x _ H1 hj ⟨acc, X1, hD, hac, hl⟩ ⟨rfl, hx⟩
      obtain ⟨r, hr, t, rfl, ht⟩ := pr_get hp hx
      have eT : rows.take (j + 1) = rows.take j ++ [r] := by rw [List.take_add_one, hr]; rfl
      have no : inB p.1 p.2 r = false → ∃ (acc : List V), Ext M0 F H F H1 ∧ H1 D = some (.lst acc) ∧ acc.isEmpty = (!(rows.take (j + 1)).any (inB p.1 p.2)) ∧ acc.length ≤ j + 1 := fun z =>
        ⟨acc, X1, hD, by rw [eT, List.any_append, hac]; simp [z], by omega⟩
      refine ⟨rfl, _, rfl, t, _, 0, .int r.1, rfl, rfl, SqT.of (X1.fh _ _ ht), rfl, _, rfl, tu, _, 0, .int p.1, rfl, rfl, SqT.of (X1.fh _ _ htu), rfl, rfl, _, rfl, ?_⟩
      by_cases e1 : r.1 = p.1
      · rw [decide_eq_true (show V.int r.1 = V.int p.1 by rw [e1])]
        refine iteT ⟨_, rfl, t, _, 1, .int r.2.1, rfl, rfl, SqT.of (X1.fh _ _ ht), rfl, _, rfl, tu, _, 1, .int p.2, rfl, rfl, SqT.of (X1.fh _ _ htu), rfl, _, _, rfl, rfl, _, rfl, ite2 (fun c => ?_) (fun c => ?_)⟩
        · refine ⟨_, rfl, t, _, 2, .int r.2.2, rfl, rfl, SqT.of (X1.fh _ _ ht), rfl, _, _, rfl, rfl, _, rfl, ite2 (fun c2 => ?_) (fun c2 => ?_)⟩
          · have z : inB p.1 p.2 r = true := by
              unfold inB
              rw [decide_eq_true e1, decide_eq_true ⟨of_decide_eq_true c, of_decide_eq_true c2⟩]
              rfl
            refine ⟨_, rfl, acc, hD, by rw [sizeLine_eq]; omega, acc ++ [.ref t], X1.put (.inl nD) fD, upd_same, ?_, by simp; omega⟩
            rw [eT, List.any_append]
            simp [z]
          · refine no ?_
            unfold inB
            rw [decide_eq_false (show ¬ (r.2.1 ≤ p.2 ∧ p.2 ≤ r.2.2) from fun z => by exact c2 (decide_eq_true z.2)), Bool.and_false]
        · refine ⟨_, rfl, ?_⟩
          refine no ?_
          unfold inB
          rw [decide_eq_false (show ¬ (r.2.1 ≤ p.2 ∧ p.2 ≤ r.2.2) from fun z => by exact c (decide_eq_true z.1)), Bool.and_false]
      · rw [decide_eq_false (show ¬ V.int r.1 = V.int p.1 from fun z => e1 (V.int.inj z))]
        refine iteF (no ?_)
        unfold inB
        rw [decide_eq_false e1, Bool.false_and]
    · rintro H1 ⟨acc, X1, hD, hac, hl⟩
      rw [lx, List.take_length] at hac
      refine ⟨Nat.zero_le _, fun p2 np2 => ⟨D, p2, acc, rfl, rfl, SqL.of (by rw [upd_ne (ne_of_none hD np2)]; exact hD), SqL.of upd_same, ?_⟩⟩
      rw [hac, Bool.not_not]
      exact q _ (X1.tmp np2)
end
end Rw
namespace Rw
open PySem L2
/-! ### the names of rows, great numbers among them, each row short -/
def SmallB (rs : List Row) : Prop := rs.length ≤ 250 ∧ ∀ r ∈ rs, 1 ≤ r.2.1 ∧ r.2.1 ≤ r.2.2 ∧ r.2.2 ≤ r.2.1 + 399 ∧ r.2.2 ≤ 1000000000000
def spNamesB : Sp := fun vs H Q _ => ∃ (F : Hp) (v : V) (rs : List Row), vs = [v] ∧ Same F H ∧ Full F H ∧ (kL kRow).is F v rs ∧ SmallB rs ∧ RetL M0 F H kPt (NamesOf rs) Q
section
variable {P : Program} {w : World} {K : PySem.W.Frag} {mg : Str → Option Value} {base : Heap}
theorem ok_law_namesB {f : Addr} {fd : FuncData} (F0 : Fun K "_law_names" "_law_names" s_law_names f fd) (T : TxN mg) : FnOk P w K mg base CX0 1 f fd ["_law_rows_here"] spNamesB := by
  refine F0.ok sc_law_names (fun vs H Q E h => ?_) (fun cdv A outer s H vs Q E hr h => ?_)
  · obtain ⟨F, v, rs, rfl, _⟩ := h
    rfl
  · obtain ⟨F, v, rs, rfl, fh, fu, ⟨a, xs, rfl, ha, hp⟩, ⟨hl, hsm⟩, q⟩ := h
    have hu := hu_of hr
    refine ⟨_, pss_cons (ps_set (i := 1) sc_law_names.nd rfl (.inl rfl) pe_dnewT)
      (pss_cons (ps_for PassesOwn.never rfl (pi_list (pv 0))
          (pg_tup rfl (pgs_cons (pg_name (i := 2) sc_law_names.nd rfl (.inl rfl)) (pgs_cons (pg_name (i := 3) sc_law_names.nd rfl (.inl rfl)) (pgs_cons (pg_name (i := 4) sc_law_names.nd rfl (.inl rfl)) pgs_nil))))
        (pss_one (ps_for PassesOwn.never rfl (pi_range2 (by rfl) T.range (pa_cons (pv 3) (pa_cons (pe_op op_add (pv 4) pe_int) pa_nil))) (pg_name (i := 5) sc_law_names.nd rfl (.inl rfl))
          (pss_one (ps_dput hu (pv 1) (pe_tup (pa_cons (pv 2) (pa_cons (pv 5) pa_nil))) pe_bl rfl)))))
      (pss_one (ps_ret (pe_callB (cr_sortedDT (by rfl)) (by rfl) T.sorted (by decide +kernel) (pa_cons (pv 1) pa_nil))))), ?_⟩
    intro d nd
    have fd0 : F d = none := fh.free nd
    refine ⟨_, rfl, a, rfl, ⟨xs, SqL.of ((same_upd nd) _ _ (fh _ _ ha))⟩, for_list (K := K) (a := a) (xs := xs) (fun i σ H1 => ∃ kvs ps y2 y3 y4 y5, σ = [some (.ref a), some (.ref d), y2, y3, y4, y5] ∧ Ext M0 F H F H1 ∧ H1 d = some (.dT kvs) ∧ DKy kvs ps ∧ (∀ p, p ∈ ps ↔ mem (rs.take i) p) ∧ ps.length ≤ 400 * i)
      ⟨[], [], none, none, none, none, rfl, (Ext.refl fh).put (.inl nd) fd0, upd_same, DKy.nil, fun p => ⟨fun h => absurd h (by simp), fun h => absurd h mem_nil⟩, Nat.le_refl _⟩ (fun i σ H1 _ ⟨_, _, _, _, _, _, _, X1, _⟩ => SqL.of (X1.fh _ _ ha)) ?_ ?_⟩
    · rintro i x σ H1 hi ⟨kvs, ps, y2, y3, y4, y5, rfl, X1, hd, hk, hm, hn⟩
      obtain ⟨r, hri, t, rfl, ht⟩ := pr_get hp hi
      obtain ⟨r1, r2, r3, r4⟩ := hsm _ (List.mem_of_getElem? hri)
      have i250 : i < 250 := by
        have := (List.getElem?_eq_some_iff.mp hri).1
        omega
      refine ⟨t, _, rfl, SqT.of (X1.fh _ _ ht), rfl, _, _, rfl, _, _, rfl, _, _, rfl, rfl, ?_⟩
      refine ⟨_, rfl, _, rfl, _, _, rfl, rfl, r.2.1, r.2.2 + 1, rfl, ⟨by omega, by omega, by omega, by omega⟩, for_range (lo := r.2.1) (n := (r.2.2 + 1 - r.2.1).toNat) (fun j σ H' => ∃ kvs ps y5, σ = [some (.ref a), some (.ref d), some (.int r.1), some (.int r.2.1), some (.int r.2.2), y5] ∧ Ext M0 F H F H' ∧ H' d = some (.dT kvs) ∧ DKy kvs ps ∧ (∀ p, p ∈ ps ↔ mem (rs.take i) p ∨ (p.1 = r.1 ∧ r.2.1 ≤ p.2 ∧ p.2 < r.2.1 + (j : Int))) ∧ ps.length ≤ 400 * i + j)
        ⟨kvs, ps, y5, rfl, X1, hd, hk, fun p => by rw [hm p]; exact ⟨.inl, fun z => z.elim id fun z => absurd z (by omega)⟩, hn⟩ ?_ ?_⟩
      · rintro j σ H2 hj ⟨kvs2, ps2, y5', rfl, X2, hd2, hk2, hm2, hn2⟩
        have hj4 : j < 400 := by omega
        refine ⟨_, rfl, _, rfl, _, rfl, (by show 2 ≤ sizeLine; decide), fun k1 nk1 => ?_⟩
        have dk1 : d ≠ k1 := ne_of_none hd2 nk1
        have hd3 : upd H2 k1 (.tup [.int r.1, .int (r.2.1 + (j : Int))]) d = some (.dT kvs2) := by rw [upd_ne dk1]; exact hd2
        obtain ⟨ps3, hk3, hm3, hn3⟩ := hk2.put (r.1, r.2.1 + (j : Int)) (.bl true)
        refine ⟨d, _, rfl, DPut.t (k := kk (r.1, r.2.1 + (j : Int))) hd3 upd_same (by rw [hk2.len, sizeLine_eq]; omega), ?_⟩
        refine ⟨_, ps3, _, rfl, (X2.tmp nk1).put (.inl nd) fd0, upd_same, hk3, fun p => ?_, by omega⟩
        rw [hm3 p, hm2 p]
        constructor
        · rintro ((z | z) | z)
          · exact .inl z
          · exact .inr (by omega)
          · rw [z]; exact .inr ⟨rfl, by simp only; omega, by simp only; omega⟩
        · rintro (z | z)
          · exact .inl (.inl z)
          · by_cases e : p.2 = r.2.1 + (j : Int)
            · exact .inr (Prod.ext z.1 e)
            · exact .inl (.inr (by omega))
      · rintro σ H2 ⟨kvs2, ps2, y5', rfl, X2, hd2, hk2, hm2, hn2⟩
        refine ⟨kvs2, ps2, _, _, _, _, rfl, X2, hd2, hk2, fun p => ?_, by omega⟩
        rw [hm2 p, mem_take hri p]
        refine or_congr Iff.rfl ?_
        unfold inRow
        constructor
        · rintro ⟨z1, z2, z3⟩; exact ⟨z1.symm, z2, by omega⟩
        · rintro ⟨z1, z2, z3⟩; exact ⟨z1.symm, z2, by omega⟩
    · rintro σ H1 ⟨kvs, ps, y2, y3, y4, y5, rfl, X1, hd, hk, hm, hn⟩
      rw [pr_len hp, List.take_length] at hm
      refine ⟨_, rfl, d, kvs, ps, rfl, hd, hk.keys, hk.nd, fun ys qs p hys hperm hsort np => ?_⟩
      have X2 := lift_ext fh X1 (Same.refl H1)
      have X3 := X2.tmp (o := .lst ys) np
      have fp : lift F H H1 p = none := X2.ffree np
      refine q _ _ p ys qs X3 (X1.free np) fp upd_same (pr_mono (fun _ _ z => lift_pt X1 fu (Same.refl H1) z) hys) ⟨hsort, fun p => by rw [hperm.mem_iff, hm p], ?_⟩
      rw [hperm.length_eq]
      have := pr_len hp
      omega
end
end Rw
namespace PySem.W
open PySem PySem.Calls PyProof.Rows Rw
/-! ### sorted(xs), xs deeds of different names: what they do is never compared -/
theorem alike_row (r : Row) : alike (dRow r) (dRow r) = true := by simp [dRow, alike, alikeAll]
theorem alike_rows : ∀ rs : List Row, alikeAll (rs.map dRow) (rs.map dRow) = true
  | [] => rfl
  | r :: rs => by rw [List.map_cons, alikeAll, alike_row, alike_rows rs]; rfl
theorem alike_what (w : What) : alike (dWhat w) (dWhat w) = true := by
  cases w with
  | chg b k x => simp [dWhat, alike, alikeAll]
  | back h n => simp [dWhat, alike, alikeAll]
  | shut rows => simp [dWhat, alike, alikeAll, alike_rows]
  | bye => simp [dWhat, alike, alikeAll]
theorem alike_deed (d : Deed) : alikeAll [.int d.h, .int d.n, .int d.t, dWhat d.w] [.int d.h, .int d.n, .int d.t, dWhat d.w] = true := by simp [alike, alikeAll, alike_what]
noncomputable def deedKind (h : Heap) (ds : List Deed) : PyProof.Rows.KeyKind where
  toKeyOrd := listOrd itemOrd
  keyOf v := open Classical in if q : ∃ d, d ∈ ds ∧ ∃ as, Reads h v (dDeed d) as then some (keyToks (dPt (name q.choose))) else none
  dflt := ([] : List (Int ⊕ List Nat))
theorem deed_unique {h : Heap} {v : Value} {d e : Deed} {as bs : List Addr} (r : Reads h v (dDeed d) as) (r' : Reads h v (dDeed e) bs) : d = e := by
  have e1 := SeqAt.readOf_eq (lay_deed d).1 r
  have e2 := SeqAt.readOf_eq (lay_deed e).1 r'
  have e3 := eqv_deed d e
  rw [← e1.symm.trans e2, eqv_deed] at e3
  exact of_decide_eq_true (by rw [← e3]; exact decide_eq_true rfl)
theorem deedKind_some {h : Heap} {ds : List Deed} {v : Value} {d : Deed} {as : List Addr} (hd : d ∈ ds) (r : Reads h v (dDeed d) as) : (deedKind h ds).keyOf v = some (keyToks (dPt (name d))) := by
  have q : ∃ d, d ∈ ds ∧ ∃ as, Reads h v (dDeed d) as := ⟨d, hd, as, r⟩
  have e : (deedKind h ds).keyOf v = some (keyToks (dPt (name q.choose))) := by
    show (open Classical in if q : ∃ d, d ∈ ds ∧ ∃ as, Reads h v (dDeed d) as then some (keyToks (dPt (name q.choose))) else none) = _
    rw [dif_pos q]
  obtain ⟨h1, as', h2⟩ := q.choose_spec
  rw [e, deed_unique h2 r]
theorem deedKind_inv {h : Heap} {ds : List Deed} {v : Value} {k : List (Int ⊕ List Nat)} (e : (deedKind h ds).keyOf v = some k) : ∃ d as, d ∈ ds ∧ Reads h v (dDeed d) as ∧ k = keyToks (dPt (name d)) := by
  by_cases q : ∃ d, d ∈ ds ∧ ∃ as, Reads h v (dDeed d) as
  · have e' : (deedKind h ds).keyOf v = some (keyToks (dPt (name q.choose))) := by
      show (open Classical in if q : ∃ d, d ∈ ds ∧ ∃ as, Reads h v (dDeed d) as then some (keyToks (dPt (name q.choose))) else none) = _
      rw [dif_pos q]
    obtain ⟨h1, as', h2⟩ := q.choose_spec
    rw [e'] at e
    exact ⟨_, as', h1, h2, (Option.some.inj e).symm⟩
  · have e' : (deedKind h ds).keyOf v = none := by
      show (open Classical in if q : ∃ d, d ∈ ds ∧ ∃ as, Reads h v (dDeed d) as then some (keyToks (dPt (name q.choose))) else none) = _
      rw [dif_neg q]
      rfl
    rw [e'] at e
    exact absurd e (by simp)
theorem dataLt_pt (p q : Pt) : dataLt (dPt p) (dPt q) = decide (p.1 < q.1 ∨ (p.1 = q.1 ∧ p.2 < q.2)) := by unfold dPt; exact dataLt_ii _ _ _ _
section
variable {prog : Program} {w : World} {A : Around} {E : Value → Shared → Prop} {s : Shared}
theorem SortsAt.deeds {vs : List Value} {ds : List Deed} (e : EachIs (fun v d => ∃ as, Reads s.heap v (dDeed d) as) vs ds) (uq : Uniq ds) (hu : A.units + 5 < cLine) : SortsAt prog w A s (deedKind s.heap ds) vs := by
  refine ⟨fun v hv => ?_, ?_⟩
  · obtain ⟨d, hd, as, r⟩ := e.left v hv
    exact ⟨_, deedKind_some hd r⟩
  · refine ⟨tuples' (Value.type "int" != Value.type "tuple"), ?_, fun h2 E Q hq => ?_⟩
    · intro E x y a b Q ha hb hq
      obtain ⟨d, as, hd, ra, rfl⟩ := deedKind_inv ha
      obtain ⟨d', as', hd', rb, rfl⟩ := deedKind_inv hb
      have hq' : Q (dataLt (dPt (name d)) (dPt (name d'))) s := hq
      rw [dataLt_pt] at hq'
      have room : ∀ x y : Int, A.units + min (PyData.int x).depth (PyData.int y).depth < cLine := fun x y => by
        simp only [PyData.depth]; omega
      cases ra with
      | @tuple l o xs n _ _ h1 h2 h3 h4 =>
        cases rb with
        | @tuple l' o' xs' n' _ _ k1 k2 k3 k4 =>
          have n1 : xs.size = 4 := by simpa using SeqAt.ReadsAll.length _ _ _ h4
          have n2 : xs'.size = 4 := by simpa using SeqAt.ReadsAll.length _ _ _ k4
          refine kat_lt h1 h3 k1 k3 ?_
          by_cases en : name d = name d'
          · have ed := uq d hd d' hd' en
            subst ed
            refine katLex_alike [.int d.h, .int d.n, .int d.t, dWhat d.w] [.int d.h, .int d.n, .int d.t, dWhat d.w] 0 _ _ _ _ h4 k4 (alike_deed d) ?_ (fun _ _ x r t ex => ?_) (by rw [n1, n2]; rfl) ?_
            · have := (lay_deed d).2
              unfold dDeed at this
              rw [PyData.depth] at this
              omega
            · obtain ⟨rfl, _⟩ := List.cons.inj ex
              exact fun z => by cases z
            · rw [lex_irrefl]
              rw [decide_eq_false (by omega)] at hq'
              exact hq'
          · have h4' : ∃ v1 v2 vr a1 a2, xs.toList = v1 :: v2 :: vr ∧ Reads s.heap v1 (.int d.h) a1 ∧ Reads s.heap v2 (.int d.n) a2 := by
              revert h4
              generalize xs.toList = l
              intro h4
              cases h4 with
              | cons r1 t1 => cases t1 with
                | cons r2 t2 => exact ⟨_, _, _, _, _, rfl, r1, r2⟩
            have k4' : ∃ v1 v2 vr a1 a2, xs'.toList = v1 :: v2 :: vr ∧ Reads s.heap v1 (.int d'.h) a1 ∧ Reads s.heap v2 (.int d'.n) a2 := by
              revert k4
              generalize xs'.toList = l
              intro k4
              cases k4 with
              | cons r1 t1 => cases t1 with
                | cons r2 t2 => exact ⟨_, _, _, _, _, rfl, r1, r2⟩
            obtain ⟨v1, v2, vr, a1, a2, ex, r1, r2⟩ := h4'
            obtain ⟨w1, w2, wr, b1, b2, ey, s1, s2⟩ := k4'
            rw [ex, ey, List.zip_cons_cons, List.zip_cons_cons]
            refine kat_cons (eqAt_alike (.int d.h) (.int d'.h) A s _ _ _ _ r1 s1 (by simp [alike]) (room _ _) prog w _ _ ?_)
            by_cases e1 : d.h = d'.h
            · rw [show PyData.eqv (.int d.h) (.int d'.h) = true by simp [PyData.eqv, e1]]
              refine kat_yes (kat_cons (eqAt_alike (.int d.n) (.int d'.n) A s _ _ _ _ r2 s2 (by simp [alike]) (room _ _) prog w _ _ ?_))
              have e2 : d.n ≠ d'.n := fun z => en (Prod.ext e1 z)
              rw [show PyData.eqv (.int d.n) (.int d'.n) = false by simp [PyData.eqv, e2]]
              refine kat_no (oneLt_alike (fun _ _ z => by cases z) r2 s2 (by simp [alike]) (by simp) (room _ _) ?_)
              rw [dataLt_int]
              refine (congrArg (fun b => Q b s) ?_).mp hq'
              by_cases c : d.n < d'.n
              · rw [decide_eq_true c]; exact decide_eq_true (.inr ⟨e1, c⟩)
              · rw [decide_eq_false c]; refine decide_eq_false ?_
                show ¬ (d.h < d'.h ∨ (d.h = d'.h ∧ d.n < d'.n))
                omega
            · rw [show PyData.eqv (.int d.h) (.int d'.h) = false by simp [PyData.eqv, e1]]
              refine kat_no (oneLt_alike (fun _ _ z => by cases z) r1 s1 (by simp [alike]) (by simp) (room _ _) ?_)
              rw [dataLt_int]
              refine (congrArg (fun b => Q b s) ?_).mp hq'
              by_cases c : d.h < d'.h
              · rw [decide_eq_true c]; exact decide_eq_true (.inl c)
              · rw [decide_eq_false c]; refine decide_eq_false ?_
                show ¬ (d.h < d'.h ∨ (d.h = d'.h ∧ d.n < d'.n))
                omega
    · have e' : EachIs (fun v d => ∃ as, Reads s.heap v d as) vs (ds.map dDeed) := each_map (R := fun v d => ∃ as, Reads s.heap v d as) dDeed e
      obtain ⟨fs, t1, t2, t3⟩ := each_katTups e' fun d hd => by
        obtain ⟨x, _, rfl⟩ := List.mem_map.mp hd
        exact ⟨_, _, rfl⟩
      refine kat_kind (T := Value.type "int") t1 (by omega) (fun f hf => ?_) (beq_self_eq_true _) hq
      obtain ⟨x, r, as, m1, m2⟩ := t3 f hf
      obtain ⟨d, _, ed⟩ := List.mem_map.mp m1
      unfold dDeed at ed
      obtain ⟨rfl, _⟩ := List.cons.inj (PyData.tuple.inj ed)
      exact looks_reads m2
end
end PySem.W
namespace Rw
open PySem PySem.Spec PySem.Calls PyProof.Rows L2
def leN (a b : Deed) : Bool := decide (a.h < b.h ∨ (a.h = b.h ∧ a.n ≤ b.n))
theorem dataLe_name : PySem.W.sortLe (PyProof.Rows.listOrd PyProof.Rows.itemOrd) false (fun d : Deed => PySem.W.keyToks (dPt (name d))) = leN := by
  funext a b
  show (!PySem.W.dataLt (dPt (name b)) (dPt (name a))) = _
  rw [PySem.W.dataLt_pt]
  unfold leN name
  by_cases c : a.h < b.h ∨ (a.h = b.h ∧ a.n ≤ b.n)
  · rw [decide_eq_true c, decide_eq_false (by show ¬ (b.h < a.h ∨ (b.h = a.h ∧ b.n < a.n)); omega)]; rfl
  · rw [decide_eq_false c, decide_eq_true (by show (b.h < a.h ∨ (b.h = a.h ∧ b.n < a.n)); omega)]; rfl
def rSortedDeeds : List V → Hp → VK → Prop := fun vs H Q => ∃ (a : Addr) (xs : List V) (ds : List Deed), vs = [V.ref a] ∧ H a = some (.lst xs) ∧ Paired (kDeed.is H) xs ds ∧ Uniq ds ∧ ds.length ≤ 100000 ∧
  ∀ (ys : List V) (p : Addr), Paired (kDeed.is H) ys (ds.mergeSort leN) → H p = none → Q (.ref p) (upd H p (.lst ys))
section
variable {X : Cx}
theorem cr_sortedDeeds (hr : Room 3 X.A) : CallR X (.builtin "sorted") rSortedDeeds := by
  intro pins s σ H xs us Q I r h
  obtain ⟨a, xs, ds, rfl, ha, hp, uq, l5, q⟩ := h
  obtain rfl := Vals.ref1 r
  obtain ⟨its, rv, pl, _⟩ := I.list (SqL.of (K := X.K) ha)
  have each := each_of rv hp
  have er : PySem.W.EachIs (fun v d => ∃ as, Reads s.heap v (dDeed d) as) its ds := each_imp (fun u d ⟨v, rv, hv⟩ => Dp.reads I (dDeed d) v u (enc_deed.dp (Same.refl H) hv) rv) each
  have le : its.length = ds.length := each.length
  have er' : PySem.W.EachIs (fun v b => ∃ as, Reads (PySem.W.sortingHeap (PySem.W.copyHeap s.heap its) (s.heap.objs.size + 1) its) v (dDeed b) as) its ds := er.mono fun _ _ ⟨as, r⟩ => ⟨as, PyProof.Rows.Reads.keeps (fun _ _ => PySem.W.sorting_copy_old) r⟩
  have hz := sizeLine_eq
  refine PySem.W.sorted_vals (κ := PySem.W.deedKind (PySem.W.sortingHeap (PySem.W.copyHeap s.heap its) (s.heap.objs.size + 1) its) ds) pl.isList (PySem.W.SortsAt.deeds (s := { s with heap := PySem.W.sortingHeap (PySem.W.copyHeap s.heap its) (s.heap.objs.size + 1) its }) er' uq ?_) (by omega) ?_
  · have := hr.un
    show X.A.units + 1 + 1 + 5 < _
    omega
  · have eo := PySem.W.sortVals_each (κ := PySem.W.deedKind (PySem.W.sortingHeap (PySem.W.copyHeap s.heap its) (s.heap.objs.size + 1) its) ds) (rev := false) (fun d => PySem.W.keyToks (dPt (name d))) each (each_imp (fun v d z => z) ((PySem.W.each_mem er').mono fun v d ⟨⟨as, r⟩, hd⟩ => PySem.W.deedKind_some hd r))
    have eo' : PySem.W.EachIs (fun u x => ∃ v, RelV v u ∧ kDeed.is H v x) (PySem.W.sortVals (PySem.W.deedKind (PySem.W.sortingHeap (PySem.W.copyHeap s.heap its) (s.heap.objs.size + 1) its) ds) false its its) (ds.mergeSort leN) := by
      rw [← dataLe_name]
      exact eo
    obtain ⟨ys, ry, py⟩ := of_each eo'
    obtain ⟨c, hc⟩ := sortedAll_at s.heap its (PySem.W.sortVals (PySem.W.deedKind (PySem.W.sortingHeap (PySem.W.copyHeap s.heap its) (s.heap.objs.size + 1) its) ds) false its its).toArray
    have few : ys.length ≤ sizeLine := by rw [pr_len py, (List.mergeSort_perm ds _).length_eq]; omega
    exact ⟨.ref (s.heap.objs.size + 1), upd H (s.heap.objs.size + 1) (.lst ys), I.laid (t' := s.toks) (fun _ _ => sortedAll_old) (Nat.le_succ _) ⟨few, _, c, ry, hc⟩, rfl, q ys _ py (I.hok.fresh (Nat.le_succ _))⟩
end
end Rw
namespace Rw
open PySem L2
/-! ### letters with all deeds -/
structure Letters (me : Int) (ds : List Deed) (ls : List (List Deed)) : Prop where
  sub : ∀ l ∈ ls, (∀ x ∈ l, x ∈ ds) ∧ l.length ≤ ds.length
  len : ls.length ≤ ds.length + 3
  first : ∃ l0 rest, ls = l0 :: rest ∧ ∀ x ∈ ds, x.h = me → ∃ m ∈ l0, m.h = me ∧ x.n ≤ m.n
def spLetters (K : PySem.W.Frag) : Sp := fun vs H Q _ => ∃ (F : Hp) (d s : Addr) (ns : List Int) (me : Int) (v : V) (ds : List Deed), vs = [.ref d, .int me, v] ∧ DiceAt K F H d s ns ∧ (kL kDeed).is F v ds ∧ Uniq ds ∧ ds.length ≤ 400 ∧ Kept K F H d s ns (kL (kL kDeed)) (Letters me ds) Q
abbrev nLet : List Str := ["_law_d", "_law_me", "_law_deeds", "_law_left", "_law_found", "_law_mine", "_law_k", "_law_deed"]
structure TxLet (mg : Str → Option Value) : Prop where
  list : mg "list" = none
  len : mg "len" = none
  min : mg "min" = none
  range : mg "range" = none
  sorted : mg "sorted" = none
def LetInv (K : PySem.W.Frag) (d s : Addr) (ns : List Int) (F H : Hp) (me : Int) (a L R : Addr) (ds : List Deed) : Nat → L2.St → Hp → Prop := fun m σ H' => ∃ (F' : Hp) (left : List V) (lq : List Deed) (found : List V) (fss : List (List Deed)),
  σ = ([some (.ref d), some (.int me), some (.ref a), some (.ref L), some (.ref R), none, none, none] : List (Option V)) ∧ XD d F H F' H' ∧ DiceAt K F' H' d s ns ∧ H' L = some (.lst left) ∧ F' L = none ∧ H' R = some (.lst found) ∧ F' R = none ∧
  Paired (kDeed.is F') left lq ∧ Paired ((kL kDeed).is F') found fss ∧ (∀ x ∈ lq, x ∈ ds) ∧ (∀ l ∈ fss, (∀ x ∈ l, x ∈ ds) ∧ l.length ≤ ds.length) ∧ fss.length + lq.length ≤ ds.length ∧ m = lq.length
theorem cut_last (xs : List V) : cutV xs (some (-1)) none = xs.drop (xs.length - 1) := by
  have e : HT.sIx xs.length 0 (some (-1)) = xs.length - 1 := by
    show (if (-1 : Int) < 0 then ((-1 : Int) + (xs.length : Int)).toNat else min (-1 : Int).toNat xs.length) = xs.length - 1
    rw [if_pos (by decide)]
    omega
  unfold cutV
  rw [e, HT.sIx_none]
  refine List.take_of_length_le ?_
  rw [List.length_drop]
  omega
theorem cut_first (xs : List V) (z : Int) (h : 0 ≤ z) : cutV xs none (some z) = xs.take (min z.toNat xs.length) := by
  obtain ⟨n, rfl⟩ : ∃ n : Nat, z = (n : Int) := ⟨z.toNat, by omega⟩
  unfold cutV
  rw [HT.sIx_none, HT.sIx_nat, List.drop_zero, Nat.sub_zero, Int.toNat_natCast]
theorem leN_iff {a b : Deed} : leN a b = true ↔ a.h < b.h ∨ (a.h = b.h ∧ a.n ≤ b.n) := decide_eq_true_iff
theorem what_absb {F H : Hp} {v : V} : ∀ {w : What}, IsWhat H v w → IsWhat (absb F H) v w
  | .chg _ _ _, ⟨a, e, h⟩ => ⟨a, e, absb_tup h⟩
  | .back _ _, ⟨a, e, h⟩ => ⟨a, e, absb_tup h⟩
  | .shut _, ⟨a, u, e, h, b, xs, e2, hb, p⟩ => ⟨a, u, e, absb_tup h, b, xs, e2, absb_tup hb, pr_mono (fun _ _ ⟨t, e3, h3⟩ => ⟨t, e3, absb_tup h3⟩) p⟩
  | .bye, ⟨a, e, h⟩ => ⟨a, e, absb_tup h⟩
theorem deed_absb {F H : Hp} {v : V} {d : Deed} (h : kDeed.is H v d) : kDeed.is (absb F H) v d := by
  obtain ⟨a, u, e, ha, hw⟩ := h
  exact ⟨a, u, e, absb_tup ha, what_absb hw⟩
theorem sorted_le (ds : List Deed) : (ds.mergeSort leN).Pairwise fun a b => leN a b = true := by
  refine List.pairwise_mergeSort (fun a b c h1 h2 => ?_) (fun a b => ?_) ds
  · unfold leN at *
    rw [decide_eq_true_eq] at *
    omega
  · unfold leN
    rw [Bool.or_eq_true, decide_eq_true_eq, decide_eq_true_eq]
    omega
theorem last_top {ds : List Deed} {me : Int} (own : ∀ x ∈ ds, x.h = me) {x : Deed} (h : x ∈ ds) : ∃ m ∈ (ds.mergeSort leN).drop ((ds.mergeSort leN).length - 1), m.h = me ∧ x.n ≤ m.n := by
  have perm := List.mergeSort_perm ds leN
  have hx := perm.mem_iff.mpr h
  obtain ⟨i, hi⟩ := List.mem_iff_getElem?.mp hx
  obtain ⟨li, ei⟩ := List.getElem?_eq_some_iff.mp hi
  have ll : (ds.mergeSort leN).length - 1 < (ds.mergeSort leN).length := by omega
  refine ⟨(ds.mergeSort leN)[(ds.mergeSort leN).length - 1], ?_, own _ (perm.mem_iff.mp (List.getElem_mem ll)), ?_⟩
  · rw [List.drop_eq_getElem_cons ll]
    exact List.mem_cons_self
  · by_cases c : i = (ds.mergeSort leN).length - 1
    · subst c
      rw [ei]
      exact Int.le_refl _
    · have h1 := List.pairwise_iff_getElem.mp (sorted_le ds) i ((ds.mergeSort leN).length - 1) li ll (by omega)
      rw [ei] at h1
      have e1 := own x h
      have e2 := own _ (perm.mem_iff.mp (List.getElem_mem ll))
      have h2 := leN_iff.mp h1
      omega
section
variable {P : Program} {w : World} {K : PySem.W.Frag} {mg : Str → Option Value} {base : Heap}
set_option maxHeartbeats 2000000 in
theorem ok_law_letters {f : Addr} {fd : FuncData} (F0 : Fun K "_law_letters" "_law_letters" s_law_letters f fd) (T : TxLet mg) (CN : Cal P w K mg base 1 "_law_next" ["_law_dice_here", "_law_many"] (spNext K)) : FnOk P w K mg base CX0 4 f fd ["_law_d", "_law_me", "_law_deeds"] (spLetters K) := by
  obtain ⟨f1, fd1, G1, g1, kp1, b1⟩ := CN
  refine F0.ok sc_law_letters (fun vs H Q E h => ?_) (fun cdv A outer s0 H vs Q E hr h => ?_)
  · obtain ⟨F, d, s, ns, me, v, ds, rfl, _⟩ := h
    rfl
  · obtain ⟨F, d, s, ns, me, v, ds, rfl, D0, hv, uq, l4, q⟩ := h
    have hr1 : Room 1 _ := hr.mono (by decide)
    have hu0 : (A.deeper (PyProof.Rows.envOfC "_law_letters" (defScope s_law_letters) s0.heap.objs.size f cdv)).units < cLine := by have := hr.un; omega
    refine ⟨_, pss_cons (ps_set (i := 3) sc_law_letters.nd rfl (.inr rfl) (pe_callTy call_list_of (by rfl) T.list (by decide +kernel) (pa_cons (pv 2) pa_nil)))
      (pss_cons (ps_set (i := 4) sc_law_letters.nd rfl (.inl rfl) (pe_lst pa_nil))
      (pss_cons (ps_while PassesOwn.never (pt_cmpR (op_neL0 hu0) (pv 3) (pe_lst pa_nil) (nomark _))
        (pss_one (ps_expr (pe_bm PySem.F.plainAttrs_list PySem.F.slot_list_append PySem.F.type_list_append mt_append (pv 4) (pa_cons
          (pe_lc (own := [("_law_k", 6)]) (g := gName 6) (tt := tYes) (te := tBM K "list" rPopAt (tVar 3) (tCons (tCall (spNext K) [] E0 (tCons (tVar 0) (tCons (tCB (fun xs H Q => ∃ x n, xs = [x] ∧ LenV K x H n ∧ Q (.int n) H) (tCons (tVar 3) tNil)) tNil))) tNil)) (by rfl) sc_law_letters.nd
            (pi_range1 (by rfl) T.range (pa_cons (pe_callB (call_min2 (by rfl)) (by rfl) T.min (by decide +kernel) (pa_cons (pe_callB call_len (by rfl) T.len PySem.boot_len (pa_cons (pv 3) pa_nil)) (pa_cons (pe_op op_add pe_int (pe_call G1 hr1 (by rfl) g1 kp1 b1 .nil pass0 (pa_cons (pv 0) (pa_cons pe_int pa_nil)))) pa_nil))) pa_nil))
            (blkOk_by (own := [("_law_k", 6)]) (N := nLet) (sc := defScope s_law_letters) (by decide +kernel)) (fun _ _ _ _ _ => pg_name (i := 6) sc_law_letters.nd rfl (.inl rfl)) (fun _ _ _ _ _ => pts_nil)
            (fun _ _ _ _ _ => pe_bm PySem.F.plainAttrs_list PySem.F.slot_list_pop PySem.F.type_list_pop mt_popAt (pv 3) (pa_cons (pe_call G1 hr1 (by rfl) g1 kp1 b1 .nil pass0 (pa_cons (pv 0) (pa_cons (pe_callB call_len (by rfl) T.len PySem.boot_len (pa_cons (pv 3) pa_nil)) pa_nil))) pa_nil))) pa_nil)))))
      (pss_cons (ps_set (i := 5) sc_law_letters.nd rfl (.inl rfl) (pe_callB (cr_sortedDeeds hr) (by rfl) T.sorted (by decide +kernel) (pa_cons
          (pe_lc (own := [("_law_deed", 7)]) (g := gName 7) (tt := tTest (tOp rEq (tOp (rIxT K) (tVar 7) (tC (.int 0))) (tVar 1))) (te := tVar 7) (by rfl) sc_law_letters.nd (pi_list (pv 2))
            (blkOk_by (own := [("_law_deed", 7)]) (N := nLet) (sc := defScope s_law_letters) (by decide +kernel)) (fun _ _ _ _ _ => pg_name (i := 7) sc_law_letters.nd rfl (.inl rfl)) (fun _ _ _ _ _ => pts_one (pt_cmpR op_eq (pe_ix ix_tup (pv 7) pe_int (fun _ _ => rfl)) (pv 1) (by rfl))) (fun _ _ _ _ _ => pv 7)) pa_nil)))
      (pss_one (ps_ret (pe_op op_cat (pe_op op_cat (pe_lst (pa_cons (pe_slice sl_list (pv 5) (po_some (pe_un un_neg pe_int)) po_none) pa_nil)) (pv 4)) (pe_slice sl_list (pv 4) po_none (po_some (pe_call G1 hr1 (by rfl) g1 kp1 b1 .nil pass0 (pa_cons (pv 0) (pa_cons pe_int pa_nil))))))))))), ?_⟩
    obtain ⟨a, xs, rfl, ha, hp⟩ := id hv
    -- left = list(deeds); found = []
    refine ⟨_, rfl, a, xs, rfl, .inl (SqL.of (D0.fh _ _ ha)), fun L nL => ?_⟩
    have dL' : d ≠ L := D0.ne nL
    have fL : F L = none := D0.fh.free nL
    refine ⟨Nat.zero_le _, fun R nR => ?_⟩
    have LR : L ≠ R := ne_of_none upd_same nR
    have nR4 : H R = none := by rw [upd_ne LR.symm] at nR; exact nR
    have dR' : d ≠ R := D0.ne nR4
    have fR : F R = none := D0.fh.free nR4
    have Z5 := ((XD.refl (d := d) D0.fh).tmp (o := .lst xs) nL).tmp (o := .lst []) nR
    have D5 := (D0.tmp (o := .lst xs) nL).tmp (o := .lst []) nR
    have hL5 : upd (upd H L (.lst xs)) R (.lst []) L = some (.lst xs) := by rw [upd_ne LR, upd_same]
    have hR5 : upd (upd H L (.lst xs)) R (.lst []) R = some (.lst []) := upd_same
    revert Z5 D5 hL5 hR5
    generalize upd (upd H L (.lst xs)) R (.lst []) = H5
    intro Z5 D5 hL5 hR5
    refine ⟨LetInv K d s ns F H me a L R ds, ⟨_, F, xs, ds, [], [], rfl, Z5, D5, hL5, fL, hR5, fR, hp, .nil, fun _ h => h, fun _ h => absurd h (by simp), by simp, rfl⟩, ?_⟩
    rintro m σ H6 ⟨F6, left, lq, found, fss, rfl, Z6, D6, hL6, fL6, hR6, fR6, hleft, hfound, sub1, sub2, cnt, rfl⟩
    refine ⟨_, rfl, Nat.zero_le _, fun p np => ⟨L, p, left, rfl, rfl, SqL.of (by rw [upd_ne (ne_of_none hL6 np)]; exact hL6), SqL.of upd_same, ?_⟩⟩
    have Z7 := Z6.tmp (o := .lst []) np
    have D7 := D6.tmp (o := .lst []) np
    have hL7 : upd H6 p (.lst []) L = some (.lst left) := by rw [upd_ne (ne_of_none hL6 np)]; exact hL6
    have hR7 : upd H6 p (.lst []) R = some (.lst found) := by rw [upd_ne (ne_of_none hR6 np)]; exact hR6
    revert Z7 D7 hL7 hR7
    generalize upd H6 p (.lst []) = H7
    intro Z7 D7 hL7 hR7
    have ll := pr_len hleft
    have lf := pr_len hfound
    by_cases em : left = []
    · have e1 : (!left.isEmpty) = false := by rw [em]; rfl
      rw [e1]
      refine ⟨_, rfl, iteF ?_⟩
      have ha7 := Z7.fh _ _ (Z7.ff _ _ ha)
      have hp6 := pr_mono (fun _ _ z => kDeed.mono Z7.ff z) hp
      refine ⟨_, rfl, a, rfl, ⟨_, SqL.of ha7⟩, fun D nD => ?_⟩
      have fD : F6 D = none := D7.fh.free nD
      have D0' : H D = none := Z7.free nD
      have dD : d ≠ D := D7.ne nD
      have DR : R ≠ D := ne_of_none hR7 nD
      refine it_by (walk_list (K := K) (a := a) (xs := xs)) (fun i H' => ∃ (acc : List V), XD d F H F6 H' ∧ DiceAt K F6 H' d s ns ∧ H' R = some (.lst found) ∧ H' D = some (.lst acc) ∧ Paired (kDeed.is F6) acc ((ds.take i).filter fun e => decide (e.h = me)))
        ⟨[], Z7.tmp nD, D7.tmp nD, by rw [upd_ne DR]; exact hR7, upd_same, .nil⟩ (fun i H' _ ⟨_, Z, _⟩ => SqL.of (Z.fh _ _ (Z7.ff _ _ ha))) ?_ ?_
      · rintro j x _ H8 hj ⟨acc, Z8, D8, hR8, hD8, hac⟩ ⟨rfl, hx⟩
        obtain ⟨e, he, hev⟩ := pr_get hp6 hx
        obtain ⟨ad, ud, rfl, had, _⟩ := id hev
        have eT : (ds.take (j + 1)).filter (fun e => decide (e.h = me)) = (ds.take j).filter (fun e => decide (e.h = me)) ++ [e].filter fun e => decide (e.h = me) := by
          rw [List.take_add_one, he, ← List.filter_append]; rfl
        have la : acc.length ≤ 400 := by
          rw [pr_len hac]
          have := List.length_filter_le (fun e : Deed => decide (e.h = me)) (ds.take j)
          have := List.length_take_le' j ds
          omega
        refine ⟨rfl, _, rfl, ad, _, 0, _, rfl, rfl, SqT.of (Z8.fh _ _ had), rfl, _, rfl, rfl, _, rfl, ?_⟩
        by_cases c : e.h = me
        · rw [decide_eq_true (show V.int e.h = V.int me by rw [c])]
          refine ⟨_, rfl, acc, hD8, by rw [sizeLine_eq]; omega, acc ++ [.ref ad], Z8.put D0' fD, D8.set dD fD, by rw [upd_ne DR]; exact hR8, upd_same, ?_⟩
          rw [eT, List.filter_cons_of_pos (by simp [c])]
          exact pr_snoc hac hev
        · rw [decide_eq_false (show ¬ V.int e.h = V.int me from fun z => c (V.int.inj z))]
          refine ⟨acc, Z8, D8, hR8, hD8, ?_⟩
          rw [eT, List.filter_cons_of_neg (by simp [c]), List.filter_nil, List.append_nil]
          exact hac
      · rintro H8 ⟨acc, Z8, D8, hR8, hD8, hac⟩
        rw [pr_len hp6, List.take_length] at hac
        generalize hm : ds.filter (fun e => decide (e.h = me)) = mine at hac
        have ms : ∀ x ∈ mine, x ∈ ds ∧ x.h = me := fun x hx => by
          rw [← hm] at hx
          obtain ⟨h1, h2⟩ := List.mem_filter.mp hx
          exact ⟨h1, of_decide_eq_true h2⟩
        have ml : mine.length ≤ ds.length := by rw [← hm]; exact List.length_filter_le _ _
        refine ⟨D, acc, mine, rfl, hD8, pr_mono (fun _ _ z => kDeed.mono Z8.fh z) hac, fun x hx y hy => uq x (ms x hx).1 y (ms y hy).1, by omega, fun ys M hys nM => ?_⟩
        -- the new list holds the same objects
        have Z9 := Z8.tmp (o := .lst ys) nM
        have D9 := D8.tmp (o := .lst ys) nM
        have MR : R ≠ M := ne_of_none hR8 nM
        have hR9 : upd H8 M (.lst ys) R = some (.lst found) := by rw [upd_ne MR]; exact hR8
        have hM9 : upd H8 M (.lst ys) M = some (.lst ys) := upd_same
        have hys9 := pr_mono (fun _ _ z => kDeed.mono (same_upd (o := .lst ys) nM) z) hys
        have fR9 : absb F6 (upd H8 M (.lst ys)) R = none := by rw [absb_ne (fun xs e => by rw [hR9] at e; cases e)]; exact fR6
        have hf9 := pr_mono (fun _ _ z => (kL kDeed).mono (absb_sub Z9.fh) z) hfound
        have ky9 := pr_mono (fun _ _ z => deed_absb (F := F6) z) hys9
        have ZA := Z9.absb
        have DA := D9.absX
        revert ZA DA hR9 hM9 fR9 hf9 ky9
        generalize absb F6 (upd H8 M (.lst ys)) = F9
        generalize upd H8 M (.lst ys) = H9
        intro hR9 hM9 fR9 hf9 ky9 ZA DA
        clear Z9 D9 hys9
        -- [mine[-1:]]
        refine ⟨_, rfl, 1, rfl, _, rfl, M, _, rfl, SqL.of hM9, fun S nS => ⟨by show 1 ≤ sizeLine; decide, fun L1 nL1 => ?_⟩⟩
        have fS : F9 S = none := DA.fh.free nS
        have nS0 : H S = none := ZA.free nS
        have dS : d ≠ S := DA.ne nS
        have RS' : R ≠ S := ne_of_none hR9 nS
        have ZB := ZA.tmp (o := .lst (cutV ys (some (-1)) none)) nS
        have DB := DA.tmp (o := .lst (cutV ys (some (-1)) none)) nS
        have hS : upd H9 S (.lst (cutV ys (some (-1)) none)) S = some (.lst (cutV ys (some (-1)) none)) := upd_same
        have hRB : upd H9 S (.lst (cutV ys (some (-1)) none)) R = some (.lst found) := by rw [upd_ne RS']; exact hR9
        have ZC := ZB.frz nS0 fS hS
        have DC := DB.fzX dS fS hS
        have kS : (kL kDeed).is (upd F9 S (.lst (cutV ys (some (-1)) none))) (.ref S) ((mine.mergeSort leN).drop ((mine.mergeSort leN).length - 1)) := by
          refine kL_new fS ?_
          rw [cut_last, pr_len ky9]
          exact pr_drop _ ky9
        have hfC := pr_mono (fun _ _ z => (kL kDeed).mono (same_upd (o := .lst (cutV ys (some (-1)) none)) fS) z) hf9
        revert ZC DC kS hfC hRB nL1
        generalize upd F9 S (.lst (cutV ys (some (-1)) none)) = FC
        generalize upd H9 S (.lst (cutV ys (some (-1)) none)) = HC
        intro nL1 hRB ZC DC kS hfC
        have L1R : R ≠ L1 := ne_of_none hRB nL1
        have ZD := ZC.tmp (o := .lst [.ref S]) nL1
        have DD := DC.tmp (o := .lst [.ref S]) nL1
        have hL1 : upd HC L1 (.lst [.ref S]) L1 = some (.lst [.ref S]) := upd_same
        have hRD : upd HC L1 (.lst [.ref S]) R = some (.lst found) := by rw [upd_ne L1R]; exact hRB
        revert ZD DD hL1 hRD
        generalize upd HC L1 (.lst [.ref S]) = HD
        intro ZD DD hL1 hRD
        have e0 : lq.length = 0 := by rw [← ll, em]; rfl
        refine ⟨_, rfl, L1, R, [.ref S], found, rfl, rfl, hL1, hRD, by rw [sizeLine_eq]; simp only [List.length_singleton]; omega, fun C1 nC1 => ?_⟩
        have RC1 : R ≠ C1 := ne_of_none hRD nC1
        have ZE := ZD.tmp (o := .lst ([.ref S] ++ found)) nC1
        have DE := DD.tmp (o := .lst ([.ref S] ++ found)) nC1
        have hC1 : upd HD C1 (.lst ([.ref S] ++ found)) C1 = some (.lst ([.ref S] ++ found)) := upd_same
        have hRE : upd HD C1 (.lst ([.ref S] ++ found)) R = some (.lst found) := by rw [upd_ne RC1]; exact hRD
        have dC1 : d ≠ C1 := DD.ne nC1
        have fC1 : FC C1 = none := DD.fh.free nC1
        revert ZE DE hC1 hRE
        generalize upd HD C1 (.lst ([V.ref S] ++ found)) = HE
        intro ZE DE hC1 hRE
        refine ⟨_, rfl, _, rfl, FC, d, s, ns, 3, rfl, DE, by decide, by decide, fun z H10 z0 z3 X10 D10 => ⟨_, rfl, R, _, rfl, SqL.of (X10.hh _ _ hRE fun e => dR' e.symm), fun S2 nS2 => ?_⟩⟩
        have ZF := ZE.draw X10
        have hC10 := X10.hh _ _ hC1 fun e => dC1 e.symm
        have C1S : C1 ≠ S2 := ne_of_none hC10 nS2
        have ZG := ZF.tmp (o := .lst (cutV found none (some z))) nS2
        have DG := D10.tmp (o := .lst (cutV found none (some z))) nS2
        refine ⟨C1, S2, _, _, rfl, rfl, by rw [upd_ne C1S]; exact hC10, upd_same, ?_, fun O nO => ?_⟩
        · have := cutV_length found none (some z)
          rw [sizeLine_eq, List.length_append, List.length_singleton]
          omega
        have fO : FC O = none := DG.fh.free nO
        have nO0 : H O = none := ZG.free nO
        have dO : d ≠ O := DG.ne nO
        have ZH := ZG.tmp (o := .lst ([.ref S] ++ found ++ cutV found none (some z))) nO
        have DH := DG.tmp (o := .lst ([.ref S] ++ found ++ cutV found none (some z))) nO
        have kO : (kL (kL kDeed)).is (upd FC O (.lst ([.ref S] ++ found ++ cutV found none (some z)))) (.ref O) ([(mine.mergeSort leN).drop ((mine.mergeSort leN).length - 1)] ++ fss ++ fss.take (min z.toNat found.length)) := by
          refine kL_new fO (pr_append (pr_append (.cons kS .nil) hfC) ?_)
          rw [cut_first found z z0]
          exact pr_take _ hfC
        refine q _ _ (.ref O) _ (ZH.frz nO0 fO upd_same) (DH.fzX dO fO upd_same) kO ⟨fun l hl => ?_, ?_, _, _, rfl, fun x hx hm' => ?_⟩
        · rcases List.mem_append.mp hl with hl | hl
          · rcases List.mem_append.mp hl with hl | hl
            · rw [List.mem_singleton.mp hl]
              refine ⟨fun x hx => (ms x ((List.mergeSort_perm mine leN).mem_iff.mp (List.mem_of_mem_drop hx))).1, ?_⟩
              rw [List.length_drop, (List.mergeSort_perm mine leN).length_eq]
              omega
            · exact sub2 l hl
          · exact sub2 l (List.mem_of_mem_take hl)
        · have lt := List.length_take_le (min z.toNat found.length) fss
          rw [List.length_append, List.length_append, List.length_singleton]
          omega
        · exact last_top (fun y hy => (ms y hy).2) (by rw [← hm]; exact List.mem_filter.mpr ⟨hx, decide_eq_true hm'⟩)
    · have e1 : (!left.isEmpty) = true := by cases left with
        | nil => exact absurd rfl em
        | cons a b => rfl
      rw [e1]
      have pos : 0 < left.length := List.length_pos_iff.mpr em
      refine ⟨_, rfl, iteT ⟨fun σ' H' => ∃ m', m' < lq.length ∧ LetInv K d s ns F H me a L R ds m' σ' H', fun σ' H' w' => w', _, rfl, .inl ⟨rfl, _, SqL.of hR7⟩, ?_⟩⟩
      refine ⟨_, rfl, _, _, rfl, .inl ⟨_, SqL.of hL7, rfl⟩, _, rfl, F6, d, s, ns, 4, rfl, D7, by decide, by decide, fun z H8 z0 z4 X8 D8 => ⟨_, _, rfl, rfl, _, _, rfl, _, rfl, ?_⟩⟩
      have hL8 := X8.hh _ _ hL7 fun e => dL' e.symm
      have hR8 := X8.hh _ _ hR7 fun e => dR' e.symm
      have Z8 := Z7.draw X8
      clear hL7 hR7 Z7 D7 X8
      obtain ⟨k, ek, k1, k2⟩ : ∃ k : Nat, (if 1 + z < ((left.length : Nat) : Int) then 1 + z else ((left.length : Nat) : Int)) = (k : Int) ∧ 1 ≤ k ∧ k ≤ left.length := by
        by_cases c : 1 + z < ((left.length : Nat) : Int)
        · exact ⟨(1 + z).toNat, by rw [if_pos c]; omega, by omega, by omega⟩
        · exact ⟨left.length, by rw [if_neg c], by omega, Nat.le_refl _⟩
      rw [ek]
      refine ⟨by omega, by omega, fun D nD => ?_⟩
      have fD : F6 D = none := D8.fh.free nD
      have D0' : H D = none := Z8.free nD
      have dD : d ≠ D := D8.ne nD
      have DL : L ≠ D := ne_of_none hL8 nD
      have DR : R ≠ D := ne_of_none hR8 nD
      refine it_by (walk_range (lo := 0) (n := (((k : Nat) : Int)).toNat)) (fun i H' => ∃ (left' : List V) (lq' : List Deed) (acc : List V) (as : List Deed), XD d F H F6 H' ∧ DiceAt K F6 H' d s ns ∧ H' L = some (.lst left') ∧ H' R = some (.lst found) ∧ H' D = some (.lst acc) ∧
        Paired (kDeed.is F6) left' lq' ∧ Paired (kDeed.is F6) acc as ∧ (∀ x ∈ lq', x ∈ ds) ∧ (∀ x ∈ as, x ∈ ds) ∧ lq'.length + i = lq.length ∧ as.length = i)
        ⟨left, lq, [], [], Z8.tmp nD, D8.tmp nD, by rw [upd_ne DL]; exact hL8, by rw [upd_ne DR]; exact hR8, upd_same, hleft, .nil, sub1, fun _ h => absurd h (by simp), by simp, rfl⟩ (fun _ _ _ _ => trivial) ?_ ?_
      · rintro i x H9 H9' hi ⟨left', lq', acc, as, Z9, D9, hL9, hR9, hD9, hl', ha', s1, s2, c1, c2⟩ ⟨rfl, rfl⟩
        have ll' := pr_len hl'
        have la' := pr_len ha'
        refine ⟨rfl, _, rfl, .inl ⟨rfl, _, SqL.of hL9⟩, _, rfl, _, rfl, _, _, rfl, .inl ⟨_, SqL.of hL9, rfl⟩, F6, d, s, ns, _, rfl, D9, by omega, by omega, fun z' H10 g0 g1 X10 D10 => ?_⟩
        have hL10 := X10.hh _ _ hL9 fun e => dL' e.symm
        have hR10 := X10.hh _ _ hR9 fun e => dR' e.symm
        have hD10 := X10.hh _ _ hD9 fun e => dD e.symm
        have Z10 := Z9.draw X10
        obtain ⟨zn, rfl⟩ : ∃ zn : Nat, z' = (zn : Int) := ⟨z'.toNat, by omega⟩
        have hzn : zn < left'.length := by omega
        obtain ⟨x', hx', kx'⟩ := pr_get hl' (List.getElem?_eq_getElem hzn)
        have mx := s1 x' (List.mem_of_getElem? hx')
        refine ⟨L, left', (zn : Int), zn, left'[zn], rfl, rfl, hL10, by omega, by omega, by rw [seq_at (by omega) (by omega)]; rfl, List.getElem?_eq_getElem hzn, ?_⟩
        have Z11 := Z10.put (o := .lst (left'.eraseIdx zn)) nL fL6
        have D11 := D10.set (o := .lst (left'.eraseIdx zn)) dL' fL6
        refine ⟨acc, by rw [upd_ne DL.symm]; exact hD10, by rw [sizeLine_eq]; omega, left'.eraseIdx zn, lq'.eraseIdx zn, acc ++ [left'[zn]], as ++ [x'], Z11.put D0' fD, D11.set dD fD, by rw [upd_ne DL, upd_same], by rw [upd_ne DR, upd_ne LR.symm]; exact hR10, upd_same, pr_erase zn hl', pr_snoc ha' kx', fun y hy => s1 y (List.mem_of_mem_eraseIdx hy), fun y hy => ?_, ?_, by rw [List.length_append, c2]; rfl⟩
        · rcases List.mem_append.mp hy with hy | hy
          · exact s2 y hy
          · rw [List.mem_singleton.mp hy]; exact mx
        · rw [List.length_eraseIdx_of_lt (by omega)]
          omega
      · rintro H9 ⟨left', lq', acc, as, Z9, D9, hL9, hR9, hD9, hl', ha', s1, s2, c1, c2⟩
        rw [Int.toNat_natCast] at c1 c2
        have ZF := Z9.frz D0' fD hD9
        have DF := D9.fzX dD fD hD9
        have sm : Same F6 (upd F6 D (.lst acc)) := same_upd fD
        have kn : (kL kDeed).is (upd F6 D (.lst acc)) (.ref D) as := kL_new fD ha'
        have fL9 : upd F6 D (.lst acc) L = none := by rw [upd_ne DL]; exact fL6
        have fR9 : upd F6 D (.lst acc) R = none := by rw [upd_ne DR]; exact fR6
        have hl9 := pr_mono (fun _ _ z => kDeed.mono sm z) hl'
        have hf9 := pr_mono (fun _ _ z => (kL kDeed).mono sm z) hfound
        refine ⟨R, found, .ref D, rfl, rfl, hR9, by rw [sizeLine_eq]; omega, lq'.length, by omega, upd F6 D (.lst acc), left', lq', found ++ [.ref D], fss ++ [as], rfl, ZF.put nR4 fR9, DF.set dR' fR9, by rw [upd_ne LR]; exact hL9, fL9, upd_same, fR9, hl9, pr_snoc hf9 kn, s1, fun l hl => ?_, ?_, rfl⟩
        · rcases List.mem_append.mp hl with hl | hl
          · exact sub2 l hl
          · rw [List.mem_singleton.mp hl]
            exact ⟨s2, by omega⟩
        · rw [List.length_append, List.length_singleton]
          omega
end
end Rw
namespace Rw
open PySem L2
open GxR (TabB TabG Tabbed)
/-! ### a house beside the law's own book -/
structure SI (K : PySem.W.Frag) (C Pc : Addr) (H0 F H : Hp) (a : HA) (h : HD) (bk : Addr) (kvs : List (List Key × V)) (book : List Deed) (r : Addr) (rs : List Row) : Prop where
  fh : Same F H
  hh : ∀ b o, H0 b = some o → b ≠ Pc → H b = some o
  tr : ∀ b, H0 b ≠ none → H b ≠ none
  A : HouseAt K C F H a h
  hb : H bk = some (.dT kvs)
  fb : F bk = none
  dv : DVal (kDeed.is F) keyD kvs book
  kr : (kL kRow).is F (.ref r) rs
  tab : TabG H Pc
  fP : F Pc = none
section
variable {K : PySem.W.Frag} {C Pc : Addr} {H0 F H F' H' : Hp} {a : HA} {h : HD} {bk : Addr} {kvs : List (List Key × V)} {book : List Deed} {r : Addr} {rs : List Row} {p : Addr} {xs : List V}
theorem SI.np (S : SI K C Pc H0 F H a h bk kvs book r rs) : bk ≠ Pc := fun e => by
  obtain ⟨pp, hp, _⟩ := S.tab
  have := S.hb
  rw [e, hp] at this; cases this
theorem SI.step (S : SI K C Pc H0 F H a h bk kvs book r rs) (X : Ext M0 F H F' H') : SI K C Pc H0 F' H' a h bk kvs book r rs := by
  obtain ⟨pp, hp, ht⟩ := S.tab
  exact ⟨X.fh, fun b o e n => X.same _ _ (S.hh b o e n), fun b e => X.tr b (S.tr b e), S.A.step0 X, X.same _ _ S.hb, by rw [X.new bk (by rw [S.hb]; simp)]; exact S.fb, S.dv.mono fun _ _ z => kDeed.mono X.ff z, (kL kRow).mono X.ff S.kr, ⟨pp, X.same _ _ hp, ht⟩, by rw [X.new Pc (by rw [hp]; simp)]; exact S.fP⟩
theorem SI.gs (S : SI K C Pc H0 F H a h bk kvs book r rs) (G : GS Pc F H F' H') : SI K C Pc H0 F' H' a h bk kvs book r rs := by
  have X := G.ext
  exact ⟨X.fh, fun b o e n => X.hh _ _ (S.hh b o e n) n, fun b e => X.tr b (S.tr b e), S.A.grow S.tab X, X.hh _ _ S.hb S.np, by rw [X.new bk (by rw [S.hb]; simp)]; exact S.fb, S.dv.mono fun _ _ z => kDeed.mono X.ff z, (kL kRow).mono X.ff S.kr, G.tab, G.fP⟩
theorem HouseAt.absb (A : HouseAt K C F H a h) (s : Same F H) : HouseAt K C (Rw.absb F H) H a h := by
  have m := absb_sub s
  obtain ⟨dx, ob⟩ := A.ob
  obtain ⟨kvs, hk, dv⟩ := A.kept
  exact ⟨⟨dx, ob⟩, by rw [absb_ne (fun xs e => by rw [ob] at e; cases e)]; exact A.fp, (kL kRow).mono m A.rows, ⟨kvs, hk, dv.mono fun _ _ z => kDeed.mono m z⟩, by rw [absb_ne (fun xs e => by rw [hk] at e; cases e)]; exact A.fk, A.ends,
    by rw [absb_ne (fun xs e => by rw [A.ends] at e; cases e)]; exact A.fe, (kL kRow).mono m A.gone, (kL kInt).mono m A.base, same_seqT m A.mark⟩
theorem SI.absb (S : SI K C Pc H0 F H a h bk kvs book r rs) : SI K C Pc H0 (Rw.absb F H) H a h bk kvs book r rs := by
  have m := absb_sub S.fh
  obtain ⟨pp, hp, ht⟩ := S.tab
  exact ⟨absb_same S.fh, S.hh, S.tr, S.A.absb S.fh, S.hb, by rw [absb_ne (fun xs e => by rw [S.hb] at e; cases e)]; exact S.fb, S.dv.mono fun _ _ z => kDeed.mono m z, (kL kRow).mono m S.kr, ⟨pp, hp, ht⟩, by rw [absb_ne (fun xs e => by rw [hp] at e; cases e)]; exact S.fP⟩
theorem SI.fz (S : SI K C Pc H0 F H a h bk kvs book r rs) (f : F p = none) (e : H p = some (.lst xs)) : SI K C Pc H0 (upd F p (.lst xs)) H a h bk kvs book r rs := by
  have m : Same F (upd F p (.lst xs)) := same_upd f
  obtain ⟨pp, hp, ht⟩ := S.tab
  refine ⟨fun b u z => ?_, S.hh, S.tr, S.A.frz f e, S.hb, by rw [upd_ne fun z => by have := S.hb; rw [z, e] at this; cases this]; exact S.fb, S.dv.mono fun _ _ z => kDeed.mono m z, (kL kRow).mono m S.kr, ⟨pp, hp, ht⟩, by rw [upd_ne fun z => by rw [z, e] at hp; cases hp]; exact S.fP⟩
  by_cases hb : b = p
  · rw [hb, upd_same] at z; rw [hb, e]; exact z
  · rw [upd_ne hb] at z; exact S.fh b u z
theorem SI.tmp {o : HO} (S : SI K C Pc H0 F H a h bk kvs book r rs) (np : H p = none) : SI K C Pc H0 F (upd H p o) a h bk kvs book r rs := S.step ((Ext.refl S.fh).tmp np)
theorem SI.lay {o : HO} (S : SI K C Pc H0 F H a h bk kvs book r rs) (np : H p = none) : SI K C Pc H0 (upd F p o) (upd H p o) a h bk kvs book r rs := S.step ((Ext.refl S.fh).lay np)
theorem SI.put {ys : List V} (S : SI K C Pc H0 F H a h bk kvs book r rs) (n : H0 p = none) (f : F p = none) (e : H p = some (.lst xs)) : SI K C Pc H0 F (upd H p (.lst ys)) a h bk kvs book r rs := by
  obtain ⟨pp, hp, ht⟩ := S.tab
  have X : Ext (· = p) F H F (upd H p (.lst ys)) := (Ext.refl S.fh).put (.inr rfl) f
  exact ⟨X.fh, fun b o q m => by rw [upd_ne (ne_of_none q n)]; exact S.hh b o q m, fun b q => X.tr b (S.tr b q), S.A.step X (fun z => by obtain ⟨dx, ob⟩ := S.A.ob; rw [z, e] at ob; cases ob) (fun z => by obtain ⟨k, hk, _⟩ := S.A.kept; rw [z, e] at hk; cases hk) (fun z => by have := S.A.ends; rw [z, e] at this; cases this),
    by rw [upd_ne fun z => by have := S.hb; rw [z, e] at this; cases this]; exact S.hb, S.fb, S.dv, S.kr, ⟨pp, by rw [upd_ne fun z => by rw [z, e] at hp; cases hp]; exact hp, ht⟩, S.fP⟩
theorem SI.out {F0 : Hp} (S : SI K C Pc H0 F H a h bk kvs book r rs) (s0 : Same F0 H0) (f0 : F0 Pc = none) : Ext (· = Pc) F0 H0 F0 H :=
  ⟨Same.refl F0, fun b o e => S.hh b o (s0 b o e) (fun z => by rw [z, f0] at e; cases e), fun b o e n => S.hh b o e n, S.tr, fun _ _ => rfl⟩
theorem SI.free0 (S : SI K C Pc H0 F H a h bk kvs book r rs) (n : H p = none) : H0 p = none := by
  cases q : H0 p with
  | none => rfl
  | some u => exact absurd n (S.tr p (by rw [q]; simp))
/-- what a call gives, frozen -/
theorem SI.ret {α : Type} {k : Kd α} {φ : List α → Prop} {Q : VK} (S : SI K C Pc H0 F H a h bk kvs book r rs) (g : ∀ (F' H' : Hp) (v : Addr) (out : List α), SI K C Pc H0 F' H' a h bk kvs book r rs → Same F F' → Same H H' → (kL k).is F' (.ref v) out → φ out → Q (.ref v) H') : RetL M0 F H k φ Q :=
  fun F' H' v vs out X na fa ha hp hx => g (upd F' v (.lst vs)) H' v out (S.step (X.frz na fa ha)) (X.frz na fa ha).ff X.same (kL_new fa hp) hx
theorem SI.retP {α : Type} {k : Kd α} {φ : List α → Prop} {Q : VK} (S : SI K C Pc H0 F H a h bk kvs book r rs) (g : ∀ (F' H' : Hp) (v : Addr) (out : List α), SI K C Pc H0 F' H' a h bk kvs book r rs → Same F F' → (∀ b o, H b = some o → b ≠ Pc → H' b = some o) → (kL k).is F' (.ref v) out → φ out → Q (.ref v) H') : RetP Pc F H k φ Q :=
  fun F' H' v vs out G na fa ha hp hx => g (upd F' v (.lst vs)) H' v out (S.gs (G.frz na fa ha)) (G.frz na fa ha).ext.ff (fun b o e n => G.ext.hh b o e n) (kL_new fa hp) hx
end
/-! the law's comparing of such data -/
theorem twin_row {H F G : Hp} {v u : V} {r : Row} (s1 : Same F H) (s2 : Same G H) (h1 : kRow.is F v r) (h2 : kRow.is G u r) {n : Nat} : Twin H (n + 2) v u := by
  obtain ⟨t, rfl, ht⟩ := h1
  obtain ⟨t', rfl, ht'⟩ := h2
  refine .inr ⟨t, t', _, _, rfl, rfl, .inl ⟨s1 _ _ ht, s2 _ _ ht'⟩, by simp, rfl, fun j c e hc he => ?_⟩
  match j, hc, he with
  | 0, hc, he => cases hc; cases he; exact .inl (.inl ⟨_, rfl, rfl⟩)
  | 1, hc, he => cases hc; cases he; exact .inl (.inl ⟨_, rfl, rfl⟩)
  | 2, hc, he => cases hc; cases he; exact .inl (.inl ⟨_, rfl, rfl⟩)
  | n + 3, hc, he => simp at hc
theorem twin_pt {H F G : Hp} {v u : V} {r : Pt} (s1 : Same F H) (s2 : Same G H) (h1 : kPt.is F v r) (h2 : kPt.is G u r) {n : Nat} : Twin H (n + 2) v u := by
  obtain ⟨t, rfl, ht⟩ := h1
  obtain ⟨t', rfl, ht'⟩ := h2
  refine .inr ⟨t, t', _, _, rfl, rfl, .inl ⟨s1 _ _ ht, s2 _ _ ht'⟩, by simp, rfl, fun j c e hc he => ?_⟩
  match j, hc, he with
  | 0, hc, he => cases hc; cases he; exact .inl (.inl ⟨_, rfl, rfl⟩)
  | 1, hc, he => cases hc; cases he; exact .inl (.inl ⟨_, rfl, rfl⟩)
  | n + 2, hc, he => simp at hc
theorem twin_of {α : Type} {k : Kd α} {H F G : Hp} {n : Nat} {u v : V} {xs : List α} (one : ∀ x v u, k.is F v x → k.is G u x → Twin H n v u) (s1 : Same F H) (s2 : Same G H) (h1 : (kL k).is F v xs) (h2 : (kL k).is G u xs) (hl : xs.length ≤ 100000) : Twin H (n + 1) v u := by
  obtain ⟨a, vs, rfl, ha, p1⟩ := h1
  obtain ⟨b, us, rfl, hb, p2⟩ := h2
  refine .inr ⟨a, b, vs, us, rfl, rfl, .inr ⟨s1 _ _ ha, s2 _ _ hb⟩, by rw [pr_len p2]; exact hl, by rw [pr_len p1, pr_len p2], fun i x y hx hy => ?_⟩
  obtain ⟨z, ez, e1⟩ := pr_get p1 hx
  obtain ⟨z', ez', e2⟩ := pr_get p2 hy
  rw [ez] at ez'
  cases ez'
  exact one _ _ _ e1 e2
theorem twin_what {H F G : Hp} {v u : V} {w : What} (ok : WhatOk w) (s1 : Same F H) (s2 : Same G H) (h1 : kWhat.is F v w) (h2 : kWhat.is G u w) : Twin H 4 v u := by
  cases w with
  | chg b k x =>
    obtain ⟨t, rfl, ht⟩ := h1
    obtain ⟨t', rfl, ht'⟩ := h2
    refine .inr ⟨t, t', _, _, rfl, rfl, .inl ⟨s1 _ _ ht, s2 _ _ ht'⟩, by simp, rfl, fun j c e hc he => ?_⟩
    match j, hc, he with
    | 0, hc, he => cases hc; cases he; exact .inl (.inr (.inr (.inl ⟨_, rfl, rfl⟩)))
    | 1, hc, he => cases hc; cases he; exact .inl (.inl ⟨_, rfl, rfl⟩)
    | 2, hc, he => cases hc; cases he; exact .inl (.inl ⟨_, rfl, rfl⟩)
    | n + 3, hc, he => simp at hc
  | back k n =>
    obtain ⟨t, rfl, ht⟩ := h1
    obtain ⟨t', rfl, ht'⟩ := h2
    refine .inr ⟨t, t', _, _, rfl, rfl, .inl ⟨s1 _ _ ht, s2 _ _ ht'⟩, by simp, rfl, fun j c e hc he => ?_⟩
    match j, hc, he with
    | 0, hc, he => cases hc; cases he; exact .inl (.inr (.inr (.inl ⟨_, rfl, rfl⟩)))
    | 1, hc, he => cases hc; cases he; exact .inl (.inl ⟨_, rfl, rfl⟩)
    | 2, hc, he => cases hc; cases he; exact .inl (.inl ⟨_, rfl, rfl⟩)
    | n + 3, hc, he => simp at hc
  | shut rows =>
    obtain ⟨t, w1, rfl, ht, c1, ys, rfl, hc1, p1⟩ := h1
    obtain ⟨t', w2, rfl, ht', c2, zs, rfl, hc2, p2⟩ := h2
    have lr : rows.length ≤ 100000 := Nat.le_trans ok.1.1 (by decide)
    refine .inr ⟨t, t', _, _, rfl, rfl, .inl ⟨s1 _ _ ht, s2 _ _ ht'⟩, by simp, rfl, fun j c e hc he => ?_⟩
    match j, hc, he with
    | 0, hc, he => cases hc; cases he; exact .inl (.inr (.inr (.inl ⟨_, rfl, rfl⟩)))
    | 1, hc, he =>
      cases hc; cases he
      refine .inr ⟨c1, c2, ys, zs, rfl, rfl, .inl ⟨s1 _ _ hc1, s2 _ _ hc2⟩, by rw [pr_len p2]; exact lr, by rw [pr_len p1, pr_len p2], fun i x y hx hy => ?_⟩
      obtain ⟨z, ez, e1⟩ := pr_get p1 hx
      obtain ⟨z', ez', e2⟩ := pr_get p2 hy
      rw [ez] at ez'
      cases ez'
      exact twin_row s1 s2 e1 e2
    | n + 2, hc, he => simp at hc
  | bye =>
    obtain ⟨t, rfl, ht⟩ := h1
    obtain ⟨t', rfl, ht'⟩ := h2
    refine .inr ⟨t, t', _, _, rfl, rfl, .inl ⟨s1 _ _ ht, s2 _ _ ht'⟩, by simp, rfl, fun j c e hc he => ?_⟩
    match j, hc, he with
    | 0, hc, he => cases hc; cases he; exact .inl (.inr (.inr (.inl ⟨_, rfl, rfl⟩)))
    | n + 1, hc, he => simp at hc
theorem twin_deed {H F G : Hp} {v u : V} {d : Deed} (ok : DeedOk d) (s1 : Same F H) (s2 : Same G H) (h1 : kDeed.is F v d) (h2 : kDeed.is G u d) : Twin H 5 v u := by
  obtain ⟨t, w1, rfl, ht, k1⟩ := h1
  obtain ⟨t', w2, rfl, ht', k2⟩ := h2
  refine .inr ⟨t, t', _, _, rfl, rfl, .inl ⟨s1 _ _ ht, s2 _ _ ht'⟩, by simp, rfl, fun j c e hc he => ?_⟩
  match j, hc, he with
  | 0, hc, he => cases hc; cases he; exact .inl (.inl ⟨_, rfl, rfl⟩)
  | 1, hc, he => cases hc; cases he; exact .inl (.inl ⟨_, rfl, rfl⟩)
  | 2, hc, he => cases hc; cases he; exact .inl (.inl ⟨_, rfl, rfl⟩)
  | 3, hc, he => cases hc; cases he; exact twin_what ok.w s1 s2 k1 k2
  | n + 4, hc, he => simp at hc
theorem twin_deeds {H F G : Hp} {v u : V} {ds : List Deed} (ok : ∀ d ∈ ds, DeedOk d) (l : ds.length ≤ 100000) (s1 : Same F H) (s2 : Same G H) (h1 : (kL kDeed).is F v ds) (h2 : (kL kDeed).is G u ds) : Twin H 6 v u := by
  obtain ⟨a, vs, rfl, ha, p1⟩ := h1
  obtain ⟨b, us, rfl, hb, p2⟩ := h2
  refine .inr ⟨a, b, vs, us, rfl, rfl, .inr ⟨s1 _ _ ha, s2 _ _ hb⟩, by rw [pr_len p2]; exact l, by rw [pr_len p1, pr_len p2], fun i x y hx hy => ?_⟩
  obtain ⟨z, ez, e1⟩ := pr_get p1 hx
  obtain ⟨z', ez', e2⟩ := pr_get p2 hy
  rw [ez] at ez'
  cases ez'
  exact twin_deed (ok z (List.mem_of_getElem? ez)) s1 s2 e1 e2
theorem twin_more {H : Hp} : ∀ {n : Nat} {v u : V}, Twin H n v u → Twin H (n + 1) v u
  | 0, _, _, h => h.elim
  | n + 1, v, u, .inl h => .inl h
  | n + 1, v, u, .inr ⟨a, b, xs, ys, ev, eu, h, l, e, p⟩ => .inr ⟨a, b, xs, ys, ev, eu, h, l, e, fun i x y hx hy => twin_more (p i x y hx hy)⟩
theorem twin_up {H : Hp} {n m : Nat} {v u : V} (h : Twin H n v u) (l : n ≤ m) : Twin H m v u := by
  obtain ⟨k, rfl⟩ := Nat.le.dest l
  induction k with
  | zero => exact h
  | succ k ih => exact twin_more (ih (Nat.le_add_right n k))
theorem worths_len (b : List Int) (line : List Deed) (gone : List Row) : (worthsOf b line gone).length = b.length := by
  unfold worthsOf
  generalize standOf line gone = l
  induction l generalizing b with
  | nil => rfl
  | cons d l ih =>
    rw [List.foldl_cons, ih]
    unfold worthStep
    split <;> (try split) <;> simp
theorem has_book {R : V → Deed → Prop} {kvs : List (List Key × V)} {book : List Deed} (dv : DVal R keyD kvs book) (nd : (book.map keyD).Nodup) (p : Pt) : (valV kvs (kk p)).isSome = decide (p ∈ book.map name) := by
  by_cases c : p ∈ book.map name
  · obtain ⟨d, hd, rfl⟩ := List.mem_map.mp c
    obtain ⟨v, hv, _⟩ := dv.get nd hd
    rw [decide_eq_true c, show kk (name d) = keyD d from rfl, hv]
    rfl
  · rw [decide_eq_false c]
    have : valV kvs (kk p) = none := by
      unfold valV
      rw [List.find?_eq_none.mpr]
      · rfl
      · intro kv hkv
        simp only [decide_eq_true_eq]
        intro e
        have h1 : kk p ∈ kvs.map (·.1) := List.mem_map.mpr ⟨kv, hkv, e⟩
        rw [dv.keys] at h1
        obtain ⟨d, hd, ed⟩ := List.mem_map.mp h1
        exact c (List.mem_map.mpr ⟨d, hd, kk_inj ed⟩)
    rw [this]
    rfl
section
variable (a : HA) (me many time : Int)
theorem lk_done : (hflds a me many time).lookup ("done" : Str) = none := by kernel_rfl
theorem lk_worths : (hflds a me many time).lookup ("worths" : Str) = none := by kernel_rfl
theorem lk_now : (hflds a me many time).lookup ("now" : Str) = none := by kernel_rfl
theorem lk_lacks : (hflds a me many time).lookup ("lacks" : Str) = none := by kernel_rfl
theorem lk_gives : (hflds a me many time).lookup ("gives" : Str) = none := by kernel_rfl
theorem lk_take : (hflds a me many time).lookup ("take" : Str) = none := by kernel_rfl
theorem lk_do : (hflds a me many time).lookup ("do" : Str) = none := by kernel_rfl
end
end Rw
namespace Rw
open PySem L2
open GxR (TabB TabG Tabbed)
abbrev NIs : List Str := ["_law_house", "_law_book", "_law_time", "_law_rows_here", "_law_deeds", "_law_due", "_law_lacking", "_law_given", "_law_name", "_law_deed"]
structure CalsIs (P : Program) (w : World) (K : PySem.W.Frag) (mg : Str → Option Value) (base : Heap) (C Pc : Addr) : Prop where
  cT : Cal P w K mg base 1 "_law_told_rows" ["_law_names_here"] spTold
  cS : Cal P w K mg base 4 "_law_sorted" ["_law_deeds"] spLawSorted
  cW : Cal P w K mg base 7 "_law_worths" ["_law_deeds"] spLawWorths
  cL : Cal P w K mg base 8 "_law_like" ["_law_found", "_law_due"] (spLike 7)
  cM : Cal P w K mg base 1 "_law_names" ["_law_rows_here"] spNamesB
  cH : Cal P w K mg base 1 "_law_has" ["_law_rows_here", "_law_name"] spLawHasL
  mD : CalM P w K mg base C 1 "done" ["self"] (spDone K C)
  mE : CalM P w K mg base C 5 "deeds" ["self"] (spDeeds K C)
  mO : CalM P w K mg base C 8 "worths" ["self"] (spHWorths K C Pc)
  mN : CalM P w K mg base C 1 "now" ["self"] (spNow K C)
  mK : CalM P w K mg base C 6 "lacks" ["self", "rows"] (spLacks K C)
  mG : CalM P w K mg base C 6 "gives" ["self", "rows"] (spGives K C Pc)
/-- what a house without cuts has of the book -/
structure Fit (h : HD) (book : List Deed) (time : Int) : Prop where
  same : ∀ d, d ∈ book ↔ d ∈ h.kept
  nd : (book.map name).Nodup
  gone : h.gone = []
  base : h.base = zeros
  mem : ∀ p, mem h.rows p ↔ ∃ d ∈ h.kept, name d = p
  time : h.time = time
def spLawIs (K : PySem.W.Frag) (C Pc : Addr) : Sp := fun vs H Q _ => ∃ (F : Hp) (a : HA) (h : HD) (bk : Addr) (kvs : List (List Key × V)) (book : List Deed) (r : Addr) (rs : List Row) (time : Int), vs = [.ref a.p, .ref bk, .int time, .ref r] ∧
  SI K C Pc H F H a h bk kvs book r rs ∧ HOk h ∧ Fit h book time ∧ book.length ≤ 400 ∧ RowsOk rs ∧ SmallB rs ∧ ∀ H', Ext (· = Pc) F H F H' → TabG H' Pc → Q (.bl true) H'
theorem nm_nd {book : List Deed} (nd : (book.map name).Nodup) : (book.map keyD).Nodup := by
  rw [show book.map keyD = (book.map name).map kk by rw [List.map_map]; rfl]
  refine List.pairwise_map.mpr (nd.imp fun {a b} ne e => ne (kk_inj e))
section
variable {P : Program} {w : World} {K : PySem.W.Frag} {mg : Str → Option Value} {base : Heap} {C Pc : Addr}
set_option maxHeartbeats 4000000 in
theorem ok_law_is {f : Addr} {fd : FuncData} (F0 : Fun K "_law_is" "_law_is" s_law_is f fd) (T : TxC K mg C) (TN : TxN mg) (Cs : CalsIs P w K mg base C Pc) : FnOk P w K mg base CX0 9 f fd ["_law_house", "_law_book", "_law_time", "_law_rows_here"] (spLawIs K C Pc) := by
  obtain ⟨fT, fdT, GT, gT, kpT, bT⟩ := Cs.cT
  obtain ⟨fS, fdS, GS, gS, kpS, bS⟩ := Cs.cS
  obtain ⟨fW, fdW, GW, gW, kpW, bW⟩ := Cs.cW
  obtain ⟨fL, fdL, GL, gL, kpL, bL⟩ := Cs.cL
  obtain ⟨fM, fdM, GM, gM, kpM, bM⟩ := Cs.cM
  obtain ⟨fH, fdH, GH, gH, kpH, bH⟩ := Cs.cH
  obtain ⟨fD, fdD, GD, mD, bD⟩ := Cs.mD
  obtain ⟨fE, fdE, GE, mE, bE⟩ := Cs.mE
  obtain ⟨fO, fdO, GO, mO, bO⟩ := Cs.mO
  obtain ⟨fN, fdN, GN, mN, bN⟩ := Cs.mN
  obtain ⟨fK, fdK, GK, mK, bK⟩ := Cs.mK
  obtain ⟨fG, fdG, GG, mG, bG⟩ := Cs.mG
  refine F0.ok sc_law_is (fun vs H Q E h => ?_) (fun cdv A outer s0 H vs Q E hr h => ?_)
  · obtain ⟨F, a, h, bk, kvs, book, r, rs, time, rfl, _⟩ := h
    rfl
  · obtain ⟨F, a, h, bk, kvs, book, r, rs, time, rfl, S0, o, fit, lb, hok, sm, q⟩ := h
    have hr1 : Room 1 _ := hr.mono (by decide)
    have hr4 : Room 4 _ := hr.mono (by decide)
    have hr5 : Room 5 _ := hr.mono (by decide)
    have hr6 : Room 6 _ := hr.mono (by decide)
    have hr7 : Room 7 _ := hr.mono (by decide)
    have hu := hu_of hr
    refine ⟨_, (pss_cons (ps_lock (ps_setLc (i := 4) (own := [("_law_name", 8)]) (g := gName 8) (tt := tYes) (te := tDGet (tVar 1) (tVar 8)) (by rfl) sc_law_is.nd rfl rfl (sw_true rfl rfl rfl (by decide +kernel)) (pi_keys (pv 1))
        (blkOk_by (own := [("_law_name", 8)]) (N := NIs) (sc := defScope s_law_is) (by decide +kernel)) (fun _ _ _ _ _ => (pg_name (i := 8) sc_law_is.nd rfl (.inl rfl))) (fun _ _ _ _ _ => pts_nil) (fun _ _ _ _ _ => (pe_dget hu (pv 1) (pv 8) (fun _ _ => rfl)))))
      (pss_cons (ps_set (i := 5) sc_law_is.nd rfl (.inl rfl) (pe_lst (pa_cons (pe_call GT hr1 (by rfl) gT kpT bT .nil pass0 (pa_cons (pe_callB (cr_sortedDT (by rfl)) (by rfl) TN.sorted (by decide +kernel) (pa_cons (pv 1) pa_nil)) pa_nil)) (pa_cons (pe_call GS hr4 (by rfl) gS kpS bS .nil pass0 (pa_cons (pv 4) pa_nil)) (pa_cons (pe_call GW hr7 (by rfl) gW kpW bW .nil pass0 (pa_cons (pv 4) pa_nil)) pa_nil)))))
      (pss_cons (ps_if (PW.pt (pw_or (pt_not (pt_val (pe_call GL hr (by rfl) gL kpL bL .nil pass0 (pa_cons (pe_lst (pa_cons (pe_meth0 (pv 0) T.cl mD GD hr1 bD .nil pass0) (pa_cons (pe_meth0 (pv 0) T.cl mE GE hr5 bE .nil pass0) (pa_cons (pe_meth0 (pv 0) T.cl mO GO hr bO .nil pass0) pa_nil)))) (pa_cons (pv 5) pa_nil))))) (pw_or1 (pt_not (pt_val (pe_call GL hr (by rfl) gL kpL bL .nil pass0 (pa_cons (pe_meth0 (pv 0) T.cl mN GN hr1 bN .nil pass0) (pa_cons (pv 2) pa_nil)))))))) (pss_one (ps_ret pe_bl)) pss_nil)
      (pss_cons (ps_setLc (i := 6) (own := [("_law_name", 8)]) (g := gName 8) (tt := tB (tDNotIn (tVar 8) (tVar 1))) (te := tVar 8) (by rfl) sc_law_is.nd rfl rfl (sw_true rfl rfl rfl (by decide +kernel)) (pi_list (pe_call GM hr1 (by rfl) gM kpM bM .nil pass0 (pa_cons (pv 3) pa_nil)))
        (blkOk_by (own := [("_law_name", 8)]) (N := NIs) (sc := defScope s_law_is) (by decide +kernel)) (fun _ _ _ _ _ => (pg_name (i := 8) sc_law_is.nd rfl (.inl rfl))) (fun _ _ _ _ _ => pts_one (pt_cmp (pc_dnotin hu (pv 8) (pv 1)) (by rfl))) (fun _ _ _ _ _ => (pv 8)))
      (pss_cons (ps_setLc (i := 7) (own := [("_law_deed", 9)]) (g := gName 9) (tt := tB (tCall spLawHasL [] E0 (tCons (tVar 3) (tCons (tSl (rSlT K) (tVar 9) tNoPart (tPart (tC (.int 2)))) tNil)))) (te := tVar 9) (by rfl) sc_law_is.nd rfl rfl (sw_true rfl rfl rfl (by decide +kernel)) (pi_list (pe_call GS hr4 (by rfl) gS kpS bS .nil pass0 (pa_cons (pv 4) pa_nil)))
        (blkOk_by (own := [("_law_deed", 9)]) (N := NIs) (sc := defScope s_law_is) (by decide +kernel)) (fun _ _ _ _ _ => (pg_name (i := 9) sc_law_is.nd rfl (.inl rfl))) (fun _ _ _ _ _ => pts_one (pt_val (pe_call GH hr1 (by rfl) gH kpH bH .nil pass0 (pa_cons (pv 3) (pa_cons (pe_slice sl_tup (pv 9) po_none (po_some pe_int)) pa_nil))))) (fun _ _ _ _ _ => (pv 9)))
      (pss_one (ps_ret (pe_call GL hr (by rfl) gL kpL bL .nil pass0 (pa_cons (pe_lst (pa_cons (pe_meth (pv 0) T.cl mK GK hr6 bK .nil pass0 (pa_cons (pv 3) pa_nil)) (pa_cons (pe_meth (pv 0) T.cl mG GG hr6 bG .nil pass0 (pa_cons (pv 3) pa_nil)) pa_nil))) (pa_cons (pe_lst (pa_cons (pe_call GT hr1 (by rfl) gT kpT bT .nil pass0 (pa_cons (pv 6) pa_nil)) (pa_cons (pv 7) pa_nil))) pa_nil)))))))))), ?_⟩
    have S0' := S0
    obtain ⟨fh, fP⟩ : Same F H ∧ F Pc = none := ⟨S0.fh, S0.fP⟩
    have lk : kvs.length = book.length := by have := congrArg List.length S0.dv.keys; rw [List.length_map, List.length_map] at this; exact this
    have ndk := nm_nd fit.nd
    have okb : ∀ d ∈ book, DeedOk d := fun d hd => o.ok d ((fit.same d).mp hd)
    have uqb : Uniq book := uniq_nd fit.nd
    have inB : ∀ n, n ∈ book.map name ↔ mem h.rows n := fun n => by
      rw [fit.mem, List.mem_map]
      exact ⟨fun ⟨d, hd, e⟩ => ⟨d, (fit.same d).mp hd, e⟩, fun ⟨d, hd, e⟩ => ⟨d, (fit.same d).mpr hd, e⟩⟩
    have lineB : ∀ l, LineOf h.kept l ↔ LineOf book l := fun l =>
      ⟨fun z => ⟨z.ord, fun d => (z.mem d).trans (fit.same d).symm⟩, fun z => ⟨z.ord, fun d => (z.mem d).trans (fit.same d)⟩⟩
    -- the deeds of the book
    refine ⟨bk, .dT kvs, S0.hb, trivial, fun od => ⟨_, rfl, bk, od, rfl, .inr ⟨kvs, upd_same, fun D nD => ?_⟩⟩⟩
    have Db : D ≠ bk := fun e => by rw [e, upd_same] at nD; cases nD
    have nD0 : H D = none := by rw [upd_ne Db] at nD; exact nD
    refine it_by (walk_keysT (d := bk) (o := od) (kvs := kvs)) (fun i H' => ∃ acc, H' = upd (upd H bk (.frz od (.dT kvs))) D (.lst acc) ∧ Paired (kDeed.is F) acc (book.take i))
      ⟨[], rfl, .nil⟩ (fun i H' _ ⟨_, e, _⟩ => by rw [e, upd_ne Db.symm]; exact upd_same) ?_ ?_
    · rintro j x _ H1 hj ⟨acc, rfl, hac⟩ ⟨rfl, k, v, kq, hkv, rfl, hq⟩
      have hjb : j < book.length := by omega
      have ek : k = keyD book[j] := by
        have := congrArg (fun l => l[j]?) S0.dv.keys
        simp only [List.getElem?_map, hkv, List.getElem?_eq_getElem hjb, Option.map_some, Option.some.injEq] at this
        exact this
      obtain ⟨dv, hv1, hv2⟩ := S0.dv.get ndk (List.getElem_mem hjb)
      refine ⟨rfl, _, rfl, _, rfl, bk, dv, rfl, .inr ⟨kvs, k, kq, .inr ⟨od, by rw [upd_ne Db.symm]; exact upd_same⟩, rfl, hq, by rw [ek, hv1]⟩, acc, upd_same, by rw [sizeLine_eq, pr_len hac]; have := List.length_take_le' j book; omega, acc ++ [dv], ?_, ?_⟩
      · rw [show ∀ (G : Hp) (p : Addr) (x y : HO), upd (upd G p x) p y = upd G p y from fun G p x y => funext fun b => by by_cases e : b = p <;> simp [upd, e]]
      · rw [List.take_add_one, List.getElem?_eq_getElem hjb]
        exact pr_snoc hac hv2
    rintro H1 ⟨acc, rfl, hac⟩
    rw [lk, List.take_length] at hac
    refine ⟨by rw [upd_ne Db.symm]; exact upd_same, ?_⟩
    have eH : upd (upd (upd H bk (.frz od (.dT kvs))) D (.lst acc)) bk (.dT kvs) = upd H D (.lst acc) := funext fun b => by
      by_cases e : b = bk
      · rw [e, upd_same, upd_ne Db.symm]; exact S0.hb.symm
      · rw [upd_ne e]
        by_cases e2 : b = D
        · rw [e2, upd_same, upd_same]
        · rw [upd_ne e2, upd_ne e2, upd_ne e]
    rw [eH]
    have S1 := S0.lay (o := .lst acc) nD0
    have kB : (kL kDeed).is (upd F D (.lst acc)) (.ref D) book := kL_new (S0.fh.free nD0) hac
    revert S1 kB
    generalize upd F D (.lst acc) = F1
    generalize upd H D (.lst acc) = H1
    intro S1 kB
    have f5 := o.few
    -- due
    refine ⟨_, rfl, bk, kvs, book.map name, rfl, S1.hb, by rw [S1.dv.keys, List.map_map]; rfl, fit.nd, fun ys qs p hys hperm hsort np => ?_⟩
    have S2 := (S1.tmp (o := .lst ys) np).absb
    have fp : absb F1 (upd H1 p (.lst ys)) p = none := by rw [absb_ne (fun xs e => by rw [upd_same] at e; cases e)]; exact S1.fh.free np
    have m2 : Same F1 (absb F1 (upd H1 p (.lst ys))) := absb_sub (S1.tmp (o := .lst ys) np).fh
    have kq0 : Paired (kPt.is (absb F1 (upd H1 p (.lst ys)))) ys qs := pr_mono (fun v x ⟨t, e, h⟩ => ⟨t, e, absb_tup (same_upd np _ _ h)⟩) hys
    have S3 := S2.fz fp upd_same
    have kq := kL_new (k := kPt) fp kq0
    have kB3 := (kL kDeed).mono (m2.trans (same_upd (o := .lst ys) fp)) kB
    revert S3 kq kB3
    generalize upd (absb F1 (upd H1 p (.lst ys))) p (.lst ys) = F3
    generalize upd H1 p (.lst ys) = H3
    intro S3 kq kB3
    clear S2 kq0 m2 fp
    have lq : qs.length ≤ 400 := by rw [hperm.length_eq, List.length_map]; exact lb
    refine ⟨F3, .ref p, qs, rfl, S3.fh, kq, hsort, by omega, S3.ret fun F4 H4 v1 out S4 m4 _ kt tt => ?_⟩
    refine ⟨_, rfl, F4, .ref D, book, rfl, S4.fh, (kL kDeed).mono m4 kB3, uqb, by omega, S4.ret fun F5 H5 v2 line S5 m5 _ kl lo => ?_⟩
    refine ⟨_, rfl, F5, .ref D, book, rfl, S5.fh, ⟨(kL kDeed).mono (m4.trans m5) kB3, okb, uqb, lb⟩, S5.ret fun F6 H6 v3 ws S6 m6 _ kw ⟨line', lo', ew⟩ => ?_⟩
    have el := lo'.uniq lo
    subst el
    refine ⟨by show 3 ≤ sizeLine; decide, fun U nU => ?_⟩
    have S7 := S6.lay (o := .lst [.ref v1, .ref v2, .ref v3]) nU
    have hU : upd F6 U (.lst [.ref v1, .ref v2, .ref v3]) U = some (.lst [.ref v1, .ref v2, .ref v3]) := upd_same
    have m7 : Same F6 (upd F6 U (.lst [.ref v1, .ref v2, .ref v3])) := same_upd (S6.fh.free nU)
    have kt7 := (kL kRow).mono ((m5.trans m6).trans m7) kt
    have kl7 := (kL kDeed).mono (m6.trans m7) kl
    have kw7 := (kL kInt).mono m7 kw
    have kB7 := (kL kDeed).mono (((m4.trans m5).trans m6).trans m7) kB3
    revert S7 hU kt7 kl7 kw7 kB7
    generalize upd F6 U (.lst [.ref v1, .ref v2, .ref v3]) = F7
    generalize upd H6 U (.lst [.ref v1, .ref v2, .ref v3]) = H7
    intro S7 hU kt7 kl7 kw7 kB7
    clear S6 S5 S4 S3 S1 m4 m5 m6 m7 kt kl kw kB3 kB kq
    have eR : out = h.rows := tt.can.uniq o.can fun n => by rw [tt.mem, hperm.mem_iff]; exact inB n
    subst eR
    -- done, deeds, worths
    obtain ⟨dx7, ob7⟩ := S7.A.ob
    refine ⟨_, rfl, a.p, dx7, _, rfl, ob7, lk_done _ _ _ _, F7, a, h, rfl, S7.fh, S7.A, S7.ret fun F8 H8 w1 rows8 S8 m8 _ k8 e8 => ?_⟩
    subst e8
    obtain ⟨dx8, ob8⟩ := S8.A.ob
    refine ⟨_, rfl, a.p, dx8, _, rfl, ob8, lk_deeds _ _ _ _, F8, a, h, rfl, S8.fh, S8.A, o, S8.ret fun F9 H9 w2 line9 S9 m9 _ k9 lo9 => ?_⟩
    have el := ((lineB _).mp lo9).uniq lo
    subst el
    obtain ⟨dx9, ob9⟩ := S9.A.ob
    refine ⟨_, rfl, a.p, dx9, _, rfl, ob9, lk_worths _ _ _ _, F9, a, h, rfl, S9.fh, S9.A, o, S9.tab, S9.fP, S9.retP fun F10 H10 w3 ws10 S10 m10 _ k10 ⟨line10, lo10, e10⟩ => ?_⟩
    have el := ((lineB _).mp lo10).uniq lo
    subst el
    have e11 : ws10 = ws := by rw [e10, ew, fit.base, fit.gone]
    subst e11
    refine ⟨by show 3 ≤ sizeLine; decide, fun U2 nU2 => ?_⟩
    have S11 := S10.tmp (o := .lst [.ref w1, .ref w2, .ref w3]) nU2
    have hU2 : upd H10 U2 (.lst [.ref w1, .ref w2, .ref w3]) U2 = some (.lst [.ref w1, .ref w2, .ref w3]) := upd_same
    have s710 := (m8.trans m9).trans m10
    have hU11 := S11.fh _ _ (s710 _ _ hU)
    have lz : zeros.length = 6 := rfl
    refine ⟨_, rfl, .ref U2, .ref U, rfl, ?_, true, rfl, ?_⟩
    · refine .inr ⟨U2, U, _, _, rfl, rfl, .inr ⟨hU2, hU11⟩, by simp, rfl, fun i x y hx hy => ?_⟩
      match i, hx, hy with
      | 0, hx, hy =>
        cases hx; cases hy
        exact twin_up (twin_of (n := 2) (fun _ _ _ a b => twin_row S11.fh S11.fh a b) S11.fh S11.fh ((kL kRow).mono (m9.trans m10) k8) ((kL kRow).mono s710 kt7) (Nat.le_trans o.lr (by decide))) (by decide)
      | 1, hx, hy =>
        cases hx; cases hy
        exact twin_deeds (fun d hd => okb d ((lo.mem d).mp hd)) (by have := lo.len; omega) S11.fh S11.fh ((kL kDeed).mono m10 k9) ((kL kDeed).mono s710 kl7)
      | 2, hx, hy =>
        cases hx; cases hy
        refine twin_up (twin_of (k := kInt) (n := 1) (fun x _ _ a b => by cases a; cases b; exact .inl (.inl ⟨_, rfl, rfl⟩)) S11.fh S11.fh k10 ((kL kInt).mono s710 kw7) ?_) (by decide)
        rw [e10, worths_len, fit.base, lz]
        decide
      | n + 3, hx, hy => simp at hx
    refine iteF ?_
    revert S11 hU11
    generalize upd H10 U2 (.lst [.ref w1, .ref w2, .ref w3]) = H11
    intro S11 hU11
    obtain ⟨dx11, ob11⟩ := S11.A.ob
    refine ⟨_, rfl, a.p, dx11, _, rfl, ob11, lk_now _ _ _ _, F10, a, h, rfl, S11.A, _, rfl, .int h.time, .int time, rfl, ?_, true, rfl, iteF ?_⟩
    · rw [fit.time]; exact .inl (.inl ⟨_, rfl, rfl⟩)
    have kBa := (kL kDeed).mono (s710.trans (absb_sub S11.fh)) kB7
    have SA := S11.absb
    have fu : Full (absb F10 H11) H11 := absb_full
    revert SA fu kBa
    generalize absb F10 H11 = FA
    intro kBa SA fu
    clear S11 S10 S9 S8 S7 hU2 hU k8 k9 k10 kt7 kl7 kw7 kB7 hU11 s710 m8 m9 m10
    -- what it lacks
    refine ⟨_, rfl, FA, .ref r, rs, rfl, SA.fh, fu, SA.kr, sm, SA.ret fun FB HB vn ps SB mB _ kp np' => ?_⟩
    obtain ⟨an, xn, en, han, hpn⟩ := id kp
    obtain rfl := V.ref.inj en
    have lps : ps.length ≤ 100000 := by have := np'.len; have := sm.1; omega
    refine ⟨vn, rfl, ⟨_, SqL.of (SB.fh _ _ han)⟩, fun D2 nD2 => ?_⟩
    have fD2 : FB D2 = none := SB.fh.free nD2
    have D20 : H D2 = none := SB.free0 nD2
    refine it_by (walk_list (K := K) (a := vn) (xs := xn)) (fun i H' => ∃ acc, SI K C Pc H FB H' a h bk kvs book r rs ∧ H' D2 = some (.lst acc) ∧ Paired (kPt.is FB) acc ((ps.take i).filter fun n => !decide (n ∈ book.map name)))
      ⟨[], SB.tmp nD2, upd_same, .nil⟩ (fun i H' _ ⟨_, S, _⟩ => SqL.of (S.fh _ _ han)) ?_ ?_
    · rintro j x _ H12 hj ⟨acc, S12, hD12, hac⟩ ⟨rfl, hx⟩
      obtain ⟨n, hn, tn, rfl, htn⟩ := pr_get hpn hx
      have eT : (ps.take (j + 1)).filter (fun n => !decide (n ∈ book.map name)) = (ps.take j).filter (fun n => !decide (n ∈ book.map name)) ++ [n].filter fun n => !decide (n ∈ book.map name) := by
        rw [List.take_add_one, hn, ← List.filter_append]; rfl
      have la : acc.length ≤ 100000 := by
        rw [pr_len hac]
        have := List.length_filter_le (fun n => !decide (n ∈ book.map name)) (ps.take j)
        have := List.length_take_le' j ps
        omega
      refine ⟨rfl, _, rfl, _, rfl, bk, _, rfl, DGet.t (k := kk n) S12.hb (S12.fh _ _ htn), ?_⟩
      rw [has_book S12.dv ndk]
      refine ⟨_, rfl, ?_⟩
      by_cases c : n ∈ book.map name
      · rw [decide_eq_true c]
        refine ⟨acc, S12, hD12, ?_⟩
        rw [eT, List.filter_cons_of_neg (by simp [c]), List.filter_nil, List.append_nil]
        exact hac
      · rw [decide_eq_false c]
        refine ⟨_, rfl, acc, hD12, by rw [sizeLine_eq]; omega, acc ++ [.ref tn], S12.put D20 fD2 hD12, upd_same, ?_⟩
        rw [eT, List.filter_cons_of_pos (by simp only [decide_eq_false c]; rfl)]
        exact pr_snoc hac ⟨tn, rfl, htn⟩
    rintro H12 ⟨acc, S12, hD12, hac⟩
    rw [pr_len hpn, List.take_length] at hac
    have SC := S12.fz fD2 hD12
    have kL1 := kL_new (k := kPt) fD2 hac
    have kBc := (kL kDeed).mono (mB.trans (same_upd (o := .lst acc) fD2)) kBa
    revert SC kL1 kBc
    generalize upd FB D2 (.lst acc) = FC
    intro SC kL1 kBc
    clear SB S12 hac hD12 kp han hpn fD2 D20 nD2
    -- what it gives
    refine ⟨_, rfl, FC, .ref D, book, rfl, SC.fh, kBc, uqb, by omega, SC.ret fun FD HD vs' line2 SD mD _ kl2 lo2 => ?_⟩
    have el := lo2.uniq lo
    subst el
    obtain ⟨as', xs', es', has', hps'⟩ := id kl2
    obtain rfl := V.ref.inj es'
    have l2 := lo.len
    have hl1 := (kL kPt).mono mD kL1
    refine ⟨vs', rfl, ⟨_, SqL.of (SD.fh _ _ has')⟩, fun D3 nD3 => ?_⟩
    have fD3 : FD D3 = none := SD.fh.free nD3
    have D30 : H D3 = none := SD.free0 nD3
    refine it_by (walk_list (K := K) (a := vs') (xs := xs')) (fun i H' => ∃ F' acc, SI K C Pc H F' H' a h bk kvs book r rs ∧ Same FD F' ∧ F' D3 = none ∧ H' D3 = some (.lst acc) ∧ Paired (kDeed.is FD) acc (givesOf (line2.take i) rs))
      ⟨FD, [], SD.tmp nD3, Same.refl _, fD3, upd_same, .nil⟩ (fun i H' _ ⟨_, _, S, m, _⟩ => SqL.of (S.fh _ _ (m _ _ has'))) ?_ ?_
    · rintro j x _ H13 hj ⟨F13, acc, S13, m13, f13, hD13, hac⟩ ⟨rfl, hx⟩
      obtain ⟨e, he, hev⟩ := pr_get hps' hx
      obtain ⟨ad, ud, rfl, had, _⟩ := id hev
      have eT : givesOf (line2.take (j + 1)) rs = givesOf (line2.take j) rs ++ [e].filter fun d => memB rs (name d) := by
        unfold givesOf
        rw [List.take_add_one, he, ← List.filter_append]; rfl
      have la : acc.length ≤ 400 := by
        rw [pr_len hac]
        have := List.length_filter_le (fun d => memB rs (name d)) (line2.take j)
        have := List.length_take_le' j line2
        unfold givesOf
        omega
      refine ⟨rfl, _, rfl, _, rfl, 2, rfl, ad, _, rfl, SqT.of (S13.fh _ _ (m13 _ _ had)), (show ¬ (HT.sIx 4 0 none = 0 ∧ HT.sIx 4 4 (some 2) = 4) by decide), fun t nt => ?_⟩
      have Dt : D3 ≠ t := ne_of_none hD13 nt
      have S14 := S13.lay (o := .tup (cutV [.int e.h, .int e.n, .int e.t, ud] none (some 2))) nt
      have ht : upd F13 t (.tup (cutV [.int e.h, .int e.n, .int e.t, ud] none (some 2))) t = some (.tup [.int e.h, .int e.n]) := upd_same
      have m14 := m13.trans (same_upd (o := .tup (cutV [.int e.h, .int e.n, .int e.t, ud] none (some 2))) (S13.fh.free nt))
      have f14 : upd F13 t (.tup (cutV [.int e.h, .int e.n, .int e.t, ud] none (some 2))) D3 = none := by rw [upd_ne Dt]; exact f13
      have hD14 : upd H13 t (.tup (cutV [.int e.h, .int e.n, .int e.t, ud] none (some 2))) D3 = some (.lst acc) := by rw [upd_ne Dt]; exact hD13
      revert S14 ht m14 f14 hD14
      generalize upd F13 t (.tup (cutV [V.int e.h, .int e.n, .int e.t, ud] none (some 2))) = F14
      generalize upd H13 t (.tup (cutV [V.int e.h, .int e.n, .int e.t, ud] none (some 2))) = H14
      intro S14 ht m14 f14 hD14
      refine ⟨F14, .ref r, .ref t, rs, name e, rfl, S14.fh, S14.kr, ⟨t, rfl, ht⟩, by have := sm.1; omega, fun H15 X15 => ⟨_, rfl, ?_⟩⟩
      have S15 := S14.step X15
      have hD15 := X15.same _ _ hD14
      cases c : memB rs (name e) with
      | true =>
        refine ⟨_, rfl, acc, hD15, by rw [sizeLine_eq]; omega, F14, acc ++ [.ref ad], S15.put D30 f14 hD15, m14, f14, upd_same, ?_⟩
        rw [eT, List.filter_cons_of_pos (by exact c)]
        exact pr_snoc hac hev
      | false =>
        refine ⟨F14, acc, S15, m14, f14, hD15, ?_⟩
        rw [eT, List.filter_cons_of_neg (by show ¬ memB rs (name e) = true; rw [c]; simp), List.filter_nil, List.append_nil]
        exact hac
    rintro H13 ⟨F13, acc3, S13, m13, f13, hD13, hac3⟩
    rw [pr_len hps', List.take_length] at hac3
    have SE := S13.fz f13 hD13
    have kG := kL_new (k := kDeed) f13 (pr_mono (fun _ _ z => kDeed.mono m13 z) hac3)
    have kL2 := (kL kPt).mono (m13.trans (same_upd (o := .lst acc3) f13)) hl1
    revert SE kG kL2
    generalize upd F13 D3 (.lst acc3) = FE
    intro SE kG kL2
    clear SD SC S13 hac3 hD13 f13 m13 hl1 kL1 kBc kl2 has' hps'
    -- like
    obtain ⟨dxe, obe⟩ := SE.A.ob
    refine ⟨_, rfl, a.p, dxe, _, rfl, obe, lk_lacks _ _ _ _, _, rfl, FE, a, h, .ref r, rs, rfl, SE.fh, SE.A, o, SE.kr, hok, SE.ret fun FF HF v4 out4 SF mF _ k4 wo => ?_⟩
    obtain ⟨dxf, obf⟩ := SF.A.ob
    refine ⟨_, rfl, a.p, dxf, _, rfl, obf, lk_gives _ _ _ _, _, rfl, FF, a, h, .ref r, rs, rfl, SF.fh, SF.A, o, SF.kr, hok, SF.tab, SF.fP, SF.retP fun FG HG v5 out5 SG mG _ k5 ⟨line5, lo5, e5⟩ => ?_⟩
    have el := ((lineB _).mp lo5).uniq lo
    subst el
    subst e5
    refine ⟨by show 2 ≤ sizeLine; decide, fun U3 nU3 => ?_⟩
    have SH := SG.lay (o := .lst [.ref v4, .ref v5]) nU3
    have hU3 : upd FG U3 (.lst [.ref v4, .ref v5]) U3 = some (.lst [.ref v4, .ref v5]) := upd_same
    have mH : Same FG (upd FG U3 (.lst [.ref v4, .ref v5])) := same_upd (SG.fh.free nU3)
    have k4h := (kL kRow).mono (mG.trans mH) k4
    have k5h := (kL kDeed).mono mH k5
    have kL3 := (kL kPt).mono ((mF.trans mG).trans mH) kL2
    have kG3 := (kL kDeed).mono ((mF.trans mG).trans mH) kG
    revert SH hU3 k4h k5h kL3 kG3
    generalize upd FG U3 (.lst [.ref v4, .ref v5]) = FH
    generalize upd HG U3 (.lst [.ref v4, .ref v5]) = HH
    intro SH hU3 k4h k5h kL3 kG3
    have srt : (ps.filter fun n => !decide (n ∈ book.map name)).Pairwise lt2 := np'.sort.filter _
    have lps2 := List.length_filter_le (fun n => !decide (n ∈ book.map name)) ps
    refine ⟨_, rfl, FH, .ref D2, _, rfl, SH.fh, kL3, srt, by omega, SH.ret fun FI HI v6 out6 SI' mI sI k6 t6 => ?_⟩
    have eO : out4 = out6 := wo.can.uniq t6.can fun n => by
      rw [wo.mem, t6.mem, List.mem_filter, np'.mem, ← inB]
      simp
    subst eO
    refine ⟨_, rfl, by show 2 ≤ sizeLine; decide, fun U4 nU4 => ?_⟩
    have SJ := SI'.tmp (o := .lst [.ref v6, .ref D3]) nU4
    refine ⟨.ref U3, .ref U4, rfl, ?_, q _ (SJ.out fh fP) SJ.tab⟩
    refine .inr ⟨U3, U4, _, _, rfl, rfl, .inr ⟨SJ.fh _ _ (mI _ _ hU3), upd_same⟩, by simp, rfl, fun i x y hx hy => ?_⟩
    match i, hx, hy with
    | 0, hx, hy =>
      cases hx; cases hy
      refine twin_up (twin_of (n := 2) (fun _ _ _ a b => twin_row SJ.fh SJ.fh a b) SJ.fh SJ.fh ((kL kRow).mono mI k4h) k6 ?_) (by decide)
      have := t6.len
      omega
    | 1, hx, hy =>
      cases hx; cases hy
      refine twin_deeds (fun d hd => okb d ((lo.mem d).mp (List.mem_filter.mp hd).1)) ?_ SJ.fh SJ.fh ((kL kDeed).mono mI k5h) ((kL kDeed).mono mI kG3)
      have := List.length_filter_le (fun d => memB rs (name d)) line5
      omega
    | n + 2, hx, hy => simp at hx
end
end Rw
namespace Rw
open PySem L2
/-! ### a house and the book, letter by letter -/
theorem nodup_len {α : Type} [DecidableEq α] : ∀ (l D : List α), l.Nodup → (∀ x ∈ l, x ∈ D) → l.length ≤ D.length
  | [], D, _, _ => Nat.zero_le _
  | x :: l, D, n, s => by
    have hx := s x List.mem_cons_self
    have h1 := nodup_len l (D.erase x) (List.nodup_cons.mp n).2 fun y hy => by
      have ne : y ≠ x := fun e => (List.nodup_cons.mp n).1 (e ▸ hy)
      exact (List.mem_erase_of_ne ne).mpr (s y (List.mem_cons_of_mem _ hy))
    rw [List.length_erase_of_mem hx] at h1
    have : 0 < D.length := List.length_pos_of_mem hx
    rw [List.length_cons]; omega
theorem maxT_cons (t : Int) (d : Deed) (l : List Deed) : maxT t (d :: l) = maxT (if t < d.t then d.t else t) l := rfl
theorem maxT_ge : ∀ (l : List Deed) (t : Int), t ≤ maxT t l
  | [], t => Int.le_refl t
  | d :: l, t => by
    rw [maxT_cons]
    by_cases c : t < d.t
    · rw [if_pos c]
      have := maxT_ge l d.t
      omega
    · rw [if_neg c]
      exact maxT_ge l t
theorem maxT_mem : ∀ (l : List Deed) (t : Int) {d : Deed}, d ∈ l → d.t ≤ maxT t l
  | e :: l, t, d, h => by
    rw [maxT_cons]
    rcases List.mem_cons.mp h with rfl | h
    · by_cases c : t < d.t
      · rw [if_pos c]
        exact maxT_ge l d.t
      · rw [if_neg c]
        have := maxT_ge l t
        omega
    · exact maxT_mem l _ h
theorem maxT_le {b : Int} : ∀ (l : List Deed) (t : Int), t ≤ b → (∀ d ∈ l, d.t ≤ b) → maxT t l ≤ b
  | [], t, h, _ => h
  | d :: l, t, h, a => by
    rw [maxT_cons]
    refine maxT_le l _ ?_ fun e he => a e (List.mem_cons_of_mem _ he)
    have := a d List.mem_cons_self
    split <;> omega
theorem endsOf_nb : ∀ (new : List Deed) (es : List (Int × Int)), (∀ d ∈ new, d.w ≠ .bye) → endsOf es new = es
  | [], es, _ => rfl
  | d :: new, es, h => by
    have e : (match d.w with | .bye => putE es d.h d.n | _ => es) = es := by
      cases hw : d.w with
      | bye => exact absurd hw (h d List.mem_cons_self)
      | _ => rfl
    show endsOf (match d.w with | .bye => putE es d.h d.n | _ => es) new = es
    rw [e]
    exact endsOf_nb new es fun x hx => h x (List.mem_cons_of_mem _ hx)
theorem last_eq {rows : List Row} {names : List Pt} {me m : Int} {ns : List Int} (c : Canon rows) (hm : ∀ p, mem rows p ↔ p ∈ names) (h1 : ∀ p ∈ names, 1 ≤ p.2) (hn : ∀ y, y ∈ ns ↔ (me, y) ∈ names) (m1 : m ∈ (0 : Int) :: ns) (m2 : ∀ y ∈ (0 : Int) :: ns, y ≤ m) : m = lastOf rows me := by
  unfold lastOf
  generalize hL : ((rows.filter fun r => decide (r.1 = me)).map (·.2.2)) = L
  have inL : ∀ r ∈ rows, r.1 = me → r.2.2 ∈ L := fun r hr e => by
    rw [← hL]
    exact List.mem_map.mpr ⟨r, List.mem_filter.mpr ⟨hr, decide_eq_true e⟩, rfl⟩
  have own : ∀ y ∈ ns, ∃ r ∈ rows, r.1 = me ∧ y ≤ r.2.2 := fun y hy => by
    obtain ⟨r, hr, e, _, le⟩ := (hm _).mpr ((hn y).mp hy)
    exact ⟨r, hr, e, le⟩
  by_cases e : L = []
  · rw [e]
    show m = 0
    rcases List.mem_cons.mp m1 with z | z
    · exact z
    · obtain ⟨r, hr, er, _⟩ := own m z
      have := inL r hr er
      rw [e] at this
      exact absurd this (by simp)
  · have t1 := topOf_in (k := 0) e
    obtain ⟨r, hr, er⟩ : ∃ r ∈ rows.filter (fun r => decide (r.1 = me)), r.2.2 = topOf 0 L := by
      have t2 : topOf 0 L ∈ (rows.filter fun r => decide (r.1 = me)).map (·.2.2) := by rw [hL]; exact t1
      obtain ⟨r, hr, er⟩ := List.mem_map.mp t2
      exact ⟨r, hr, er⟩
    obtain ⟨hr1, hr2⟩ := List.mem_filter.mp hr
    have em := of_decide_eq_true hr2
    have mt : (me, topOf 0 L) ∈ names := (hm _).mp ⟨r, hr1, em, by show r.2.1 ≤ topOf 0 L; rw [← er]; exact c.ok r hr1, by show topOf 0 L ≤ r.2.2; rw [er]; exact Int.le_refl _⟩
    have le1 := m2 _ (List.mem_cons_of_mem _ ((hn _).mpr mt))
    have ge1 := h1 _ mt
    refine Int.le_antisymm ?_ le1
    rcases List.mem_cons.mp m1 with z | z
    · have : (1 : Int) ≤ topOf 0 L := ge1
      omega
    · obtain ⟨r2, hr2', e2, le2⟩ := own m z
      exact Int.le_trans le2 (topOf_ge (inL r2 hr2' e2))
structure Run (me many : Int) (ds : List Deed) (B : Int) (i j : Nat) (h : HD) (book own : List Deed) (time : Int) : Prop where
  eme : h.me = me
  emany : h.many = many
  ends : h.ends = []
  o : HOk h
  fit : Fit h book time
  lr : h.rows.length ≤ h.kept.length
  ofs : ∀ d ∈ book, d ∈ ds ∨ d ∈ own
  owns : ∀ d ∈ own, d.h = me ∧ ∀ x ∈ ds, x.h = me → x.n < d.n
  ol : own.length ≤ j
  tt : ∀ d ∈ book, d.t ≤ time
  t0 : 0 ≤ time
  tb : time ≤ B + j
  top : 0 < i → ∀ x ∈ ds, x.h = me → ∃ m ∈ book, m.h = me ∧ x.n ≤ m.n
structure Base (me many : Int) (ds : List Deed) (B : Int) : Prop where
  ok : ∀ d ∈ ds, DeedOk d ∧ d.h < many ∧ d.w ≠ .bye ∧ d.t ≤ B
  uq : Uniq ds
  l : ds.length ≤ 100
  m0 : 0 ≤ me
  mm : me < many
  m6 : many ≤ 6
  b : B ≤ 1000000000000 - 1000
  b0 : 0 ≤ B
section
variable {me many B time : Int} {ds book own : List Deed} {i j : Nat} {h : HD}
theorem Run.start (b0 : 0 ≤ B) : Run me many ds B 0 0 (newHouse me many) [] [] 0 :=
  ⟨rfl, rfl, rfl, newHouse_ok me many, ⟨fun d => Iff.rfl, List.nodup_nil, rfl, rfl, fun p => ⟨fun z => absurd z mem_nil, fun ⟨d, hd, _⟩ => (List.not_mem_nil hd).elim⟩, rfl⟩, Nat.le_refl _, fun d hd => (List.not_mem_nil hd).elim, fun d hd => (List.not_mem_nil hd).elim, Nat.le_refl _, fun d hd => (List.not_mem_nil hd).elim, Int.le_refl _, by simpa using b0, fun z => absurd z (by simp)⟩
theorem Run.more (R : Run me many ds B i j h book own time) : Run me many ds B i (j + 1) h book own time :=
  ⟨R.eme, R.emany, R.ends, R.o, R.fit, R.lr, R.ofs, R.owns, by have := R.ol; omega, R.tt, R.t0, by have := R.tb; omega, R.top⟩
theorem Run.kl (R : Run me many ds B i j h book own time) : h.kept.length ≤ ds.length + j := by
  have h1 := nodup_len h.kept (ds ++ own) (List.Pairwise.of_map name (fun _ _ n e => n (by rw [e])) R.o.nd) fun d hd => by
    rw [List.mem_append]
    exact R.ofs d ((R.fit.same d).mpr hd)
  have := R.ol
  rw [List.length_append] at h1
  omega
theorem Run.bl (R : Run me many ds B i j h book own time) : book.length ≤ ds.length + j := by
  have h1 := nodup_len book (ds ++ own) (List.Pairwise.of_map name (fun _ _ n e => n (by rw [e])) R.fit.nd) fun d hd => by
    rw [List.mem_append]
    exact R.ofs d hd
  have := R.ol
  rw [List.length_append] at h1
  omega
theorem Run.uq (R : Run me many ds B i j h book own time) (b : Base me many ds B) {l : List Deed} (sub : ∀ x ∈ l, x ∈ ds) : Uniq (book ++ l) := by
  have bb := uniq_nd R.fit.nd
  have bx : ∀ d ∈ book, ∀ x ∈ ds, name d = name x → d = x := fun d hd x hx e => by
    rcases R.ofs d hd with z | z
    · exact b.uq d z x hx e
    · obtain ⟨e1, lt⟩ := R.owns d z
      have e2 : d.h = x.h := congrArg Prod.fst e
      have e3 : d.n = x.n := congrArg Prod.snd e
      have := lt x hx (by rw [← e2, e1])
      omega
  intro d hd e he z
  rcases List.mem_append.mp hd with hd | hd <;> rcases List.mem_append.mp he with he | he
  · exact bb d hd e he z
  · exact bx d hd e (sub e he) z
  · exact (bx e he d (sub d hd) z.symm).symm
  · exact b.uq d (sub d hd) e (sub e he) z
theorem Run.take (R : Run me many ds B i j h book own time) (b : Base me many ds B) {l line book' : List Deed} {h' : HD} (jl : j ≤ 200) (sub : ∀ x ∈ l, x ∈ ds) (first : i = 0 → ∀ x ∈ ds, x.h = me → ∃ m ∈ l, m.h = me ∧ x.n ≤ m.n) (lo : LineOf l line) (mt : Met h (newOf line h.rows) h') (fr : Fresh h (newOf line h.rows))
    (bm : ∀ d, d ∈ book' ↔ d ∈ book ∨ d ∈ l) (nd : (book'.map name).Nodup) : Run me many ds B (i + 1) j h' book' own (maxT time l) := by
  have uq := R.uq b sub
  have hin : ∀ d ∈ newOf line h.rows, d ∈ l := fun d hd => (lo.mem d).mp (List.mem_filter.mp hd).1
  have old : ∀ d ∈ l, d ∉ newOf line h.rows → d ∈ book := fun d hd nh => by
    have hr : mem h.rows (name d) := by
      by_cases c : memB h.rows (name d) = true
      · exact memB_iff.mp c
      · exact absurd (List.mem_filter.mpr ⟨(lo.mem d).mpr hd, by rw [Bool.not_eq_true] at c; rw [c]; rfl⟩) nh
    obtain ⟨e, he, ee⟩ := (R.fit.mem _).mp hr
    have heb := (R.fit.same e).mpr he
    have := uq e (List.mem_append.mpr (.inl heb)) d (List.mem_append.mpr (.inr hd)) ee
    rw [← this]; exact heb
  have kept : ∀ d, d ∈ book' ↔ d ∈ h'.kept := fun d => by
    rw [bm, mt.kept, List.mem_append, ← R.fit.same]
    constructor
    · rintro (z | z)
      · exact .inl z
      · by_cases c : d ∈ newOf line h.rows
        · exact .inr c
        · exact .inl (old d z c)
    · rintro (z | z)
      · exact .inl z
      · exact .inr (hin d z)
  have eT : maxT time l = maxT time (newOf line h.rows) := by
    refine Int.le_antisymm (maxT_le _ _ (maxT_ge _ _) fun d hd => ?_) (maxT_le _ _ (maxT_ge _ _) fun d hd => maxT_mem _ _ (hin d hd))
    by_cases c : d ∈ newOf line h.rows
    · exact maxT_mem _ _ c
    · exact Int.le_trans (R.tt d (old d hd c)) (maxT_ge _ _)
  have en : endsOf h.ends (newOf line h.rows) = [] := by rw [endsOf_nb _ _ fun d hd => (b.ok d (sub d (hin d hd))).2.2.1, R.ends]
  have rl : h'.rows.length ≤ h'.kept.length := by
    have h1 := mt.len
    have h2 := R.lr
    rw [mt.kept, List.length_append]
    omega
  have mem' : ∀ p, mem h'.rows p ↔ ∃ d ∈ h'.kept, name d = p := fun p => by
    rw [mt.mem, R.fit.mem, mt.kept]
    simp only [List.mem_append]
    constructor
    · rintro (⟨d, hd, e⟩ | ⟨d, hd, e⟩)
      · exact ⟨d, .inl hd, e⟩
      · exact ⟨d, .inr hd, e⟩
    · rintro ⟨d, hd | hd, e⟩
      · exact .inl ⟨d, hd, e⟩
      · exact .inr ⟨d, hd, e⟩
  have kl := fr.few
  have t2 := R.tb
  refine ⟨by rw [mt.me]; exact R.eme, by rw [mt.many]; exact R.emany, by rw [mt.ends]; exact en, ⟨by rw [mt.kept]; exact fr.nd, fun d hd => ?_, by rw [mt.kept]; exact fr.few, mt.can, by rw [mt.kept] at rl; omega, by rw [mt.ends, en]; exact Nat.zero_le _, by rw [mt.gone]; exact R.o.gv, by rw [mt.gone]; exact R.o.lg, by rw [mt.base]; exact R.o.lb, fun d hd => (mem' _).mpr ⟨d, hd, rfl⟩⟩,
    ⟨kept, nd, by rw [mt.gone]; exact R.fit.gone, by rw [mt.base]; exact R.fit.base, mem', by rw [mt.time, R.fit.time, eT]⟩, rl, fun d hd => ?_, R.owns, R.ol, fun d hd => ?_, Int.le_trans R.t0 (maxT_ge _ _), ?_, fun _ x hx em => ?_⟩
  · rw [mt.kept] at hd
    rcases List.mem_append.mp hd with z | z
    · exact R.o.ok d z
    · exact fr.ok d z
  · rcases (bm d).mp hd with z | z
    · exact R.ofs d z
    · exact .inl (sub d z)
  · rcases (bm d).mp hd with z | z
    · exact Int.le_trans (R.tt d z) (maxT_ge _ _)
    · exact maxT_mem _ _ z
  · exact maxT_le _ _ t2 fun d hd => by have := (b.ok d (sub d hd)).2.2.2; omega
  · by_cases c : i = 0
    · obtain ⟨m, hm, z⟩ := first c x hx em
      exact ⟨m, (bm m).mpr (.inr hm), z⟩
    · obtain ⟨m, hm, z⟩ := R.top (by omega) x hx em
      exact ⟨m, (bm m).mpr (.inl hm), z⟩
theorem le_last {rows : List Row} {m n : Int} (h : mem rows (m, n)) : n ≤ lastOf rows m := by
  obtain ⟨r, hr, e, _, le⟩ := h
  refine Int.le_trans le (topOf_ge (List.mem_map.mpr ⟨r, List.mem_filter.mpr ⟨hr, decide_eq_true e⟩, rfl⟩))
theorem last_or {rows : List Row} {m : Int} (c : Canon rows) : lastOf rows m = 0 ∨ mem rows (m, lastOf rows m) := by
  by_cases e : ((rows.filter fun r => decide (r.1 = m)).map (·.2.2)) = []
  · left
    unfold lastOf
    rw [e]
    rfl
  · right
    have t1 := topOf_in (k := 0) e
    obtain ⟨r, hr, er⟩ := List.mem_map.mp t1
    obtain ⟨hr1, hr2⟩ := List.mem_filter.mp hr
    have er' : r.2.2 = lastOf rows m := er
    exact ⟨r, hr1, of_decide_eq_true hr2, by show r.2.1 ≤ lastOf rows m; rw [← er']; exact c.ok r hr1, by show lastOf rows m ≤ r.2.2; rw [er']; exact Int.le_refl _⟩
def own5 (h : HD) : Deed := nextD h (.chg false 2 5)
theorem Run.last (R : Run me many ds B i j h book own time) {m : Int} {ns : List Int} (hn : ∀ y, y ∈ ns ↔ (me, y) ∈ book.map name) (m1 : m ∈ (0 : Int) :: ns) (m2 : ∀ y ∈ (0 : Int) :: ns, y ≤ m) : m = lastOf h.rows h.me := by
  rw [R.eme]
  refine last_eq (names := book.map name) R.o.can (fun p => ?_) (fun p hp => ?_) hn m1 m2
  · rw [R.fit.mem, List.mem_map]
    exact ⟨fun ⟨d, hd, e⟩ => ⟨d, (R.fit.same d).mpr hd, e⟩, fun ⟨d, hd, e⟩ => ⟨d, (R.fit.same d).mp hd, e⟩⟩
  · obtain ⟨d, hd, rfl⟩ := List.mem_map.mp hp
    exact (R.o.ok d ((R.fit.same d).mp hd)).n1
theorem Run.lastB (R : Run me many ds B i j h book own time) : 0 ≤ lastOf h.rows h.me ∧ lastOf h.rows h.me ≤ time := by
  rcases last_or (m := h.me) R.o.can with e | e
  · rw [e]; exact ⟨Int.le_refl _, R.t0⟩
  · obtain ⟨d, hd, en⟩ := (R.fit.mem _).mp e
    have ok := R.o.ok d hd
    have e2 : d.n = lastOf h.rows h.me := congrArg Prod.snd en
    have h1 := ok.n1
    have h2 := ok.nt
    have h3 := R.tt d ((R.fit.same d).mpr hd)
    omega
theorem Run.fresh (R : Run me many ds B i j h book own time) (b : Base me many ds B) (jl : j ≤ 200) : Fresh h [own5 h] := by
  obtain ⟨l0, l1⟩ := R.lastB
  have kl := R.kl
  have bl := b.l
  have e1 := R.eme
  have e2 := R.fit.time
  have e3 := b.m0
  have e4 := b.mm
  have e5 := b.m6
  have e6 := b.b
  have e7 := R.tb
  have eL : LIM = 1000000000000 := rfl
  refine ⟨?_, by rw [List.length_append, List.length_singleton]; omega, fun d hd => ?_⟩
  · rw [List.map_append]
    refine List.nodup_append.mpr ⟨R.o.nd, by simp, fun p hp q hq e => ?_⟩
    rw [List.map_singleton, List.mem_singleton] at hq
    subst hq
    obtain ⟨d, hd, ed⟩ := List.mem_map.mp hp
    have hm : mem h.rows (h.me, lastOf h.rows h.me + 1) := (R.fit.mem _).mpr ⟨d, hd, by rw [ed, e]; rfl⟩
    have := le_last hm
    omega
  · rw [List.mem_singleton.mp hd]
    refine ⟨?_, ?_, ?_, ?_, ?_, ?_⟩
    · show 0 ≤ h.me; omega
    · show h.me ≤ 7; omega
    · show 1 ≤ lastOf h.rows h.me + 1; omega
    · show lastOf h.rows h.me + 1 ≤ h.time + 1; omega
    · show h.time + 1 ≤ LIM; omega
    · show (0 : Int) ≤ 2 ∧ (2 : Int) ≤ 5 ∧ -LIM ≤ (5 : Int) ∧ (5 : Int) ≤ LIM; omega
theorem Run.does (R : Run me many ds B i j h book own time) (b : Base me many ds B) (jl : j ≤ 200) (i0 : 0 < i) {book' : List Deed} {h' : HD} (mt : Met h [own5 h] h') (bm : ∀ d, d ∈ book' ↔ d ∈ book ∨ d = own5 h) (nd : (book'.map name).Nodup) : Run me many ds B i (j + 1) h' book' (own ++ [own5 h]) (time + 1) := by
  have fr := R.fresh b jl
  obtain ⟨l0, l1⟩ := R.lastB
  have et : h'.time = time + 1 := by
    rw [mt.time]
    show (if h.time < h.time + 1 then h.time + 1 else h.time) = time + 1
    rw [if_pos (by omega), R.fit.time]
  have en : endsOf h.ends [own5 h] = [] := by rw [endsOf_nb _ _ (fun d hd => by rw [List.mem_singleton.mp hd]; exact fun z => by cases z), R.ends]
  have kept : ∀ d, d ∈ book' ↔ d ∈ h'.kept := fun d => by
    rw [bm, mt.kept, List.mem_append, ← R.fit.same, List.mem_singleton]
  have rl : h'.rows.length ≤ h'.kept.length := by
    have h1 := mt.len
    have h2 := R.lr
    rw [mt.kept, List.length_append]
    omega
  have mem' : ∀ p, mem h'.rows p ↔ ∃ d ∈ h'.kept, name d = p := fun p => by
    rw [mt.mem, R.fit.mem, mt.kept]
    simp only [List.mem_append]
    constructor
    · rintro (⟨d, hd, e⟩ | ⟨d, hd, e⟩)
      · exact ⟨d, .inl hd, e⟩
      · exact ⟨d, .inr hd, e⟩
    · rintro ⟨d, hd | hd, e⟩
      · exact .inl ⟨d, hd, e⟩
      · exact .inr ⟨d, hd, e⟩
  have few := fr.few
  have e2 := R.fit.time
  refine ⟨by rw [mt.me]; exact R.eme, by rw [mt.many]; exact R.emany, by rw [mt.ends]; exact en, ⟨by rw [mt.kept]; exact fr.nd, fun d hd => ?_, by rw [mt.kept]; exact fr.few, mt.can, by rw [mt.kept] at rl; omega, by rw [mt.ends, en]; exact Nat.zero_le _, by rw [mt.gone]; exact R.o.gv, by rw [mt.gone]; exact R.o.lg, by rw [mt.base]; exact R.o.lb, fun d hd => (mem' _).mpr ⟨d, hd, rfl⟩⟩,
    ⟨kept, nd, by rw [mt.gone]; exact R.fit.gone, by rw [mt.base]; exact R.fit.base, mem', et⟩, rl, fun d hd => ?_, fun d hd => ?_, ?_, fun d hd => ?_, ?_, ?_, fun _ x hx em => ?_⟩
  · rw [mt.kept] at hd
    rcases List.mem_append.mp hd with z | z
    · exact R.o.ok d z
    · exact fr.ok d z
  · rw [List.mem_append, List.mem_singleton]
    rcases (bm d).mp hd with z | z
    · exact (R.ofs d z).imp id .inl
    · exact .inr (.inr z)
  · rcases List.mem_append.mp hd with z | z
    · exact R.owns d z
    · rw [List.mem_singleton.mp z]
      refine ⟨R.eme, fun x hx em => ?_⟩
      obtain ⟨m, hm, mh, le⟩ := R.top i0 x hx em
      have h1 : mem h.rows (h.me, m.n) := (R.fit.mem _).mpr ⟨m, (R.fit.same m).mp hm, Prod.ext (by rw [R.eme]; exact mh) rfl⟩
      have h2 := le_last h1
      show x.n < lastOf h.rows h.me + 1
      omega
  · rw [List.length_append, List.length_singleton]
    have := R.ol
    omega
  · rcases (bm d).mp hd with z | z
    · have := R.tt d z; omega
    · rw [z]; show h.time + 1 ≤ time + 1; omega
  · have := R.t0; omega
  · have := R.tb; omega
  · obtain ⟨m, hm, z⟩ := R.top i0 x hx em
    exact ⟨m, (bm m).mpr (.inl hm), z⟩
end
end Rw
namespace Rw
open PySem L2
open GxR (TabB TabG Tabbed)
structure Cals31 (P : Program) (w : World) (K : PySem.W.Frag) (mg : Str → Option Value) (base : Heap) (C Pc : Addr) : Prop where
  cD : Cal P w K mg base 1 "_law_dice" ["_law_script"] (spDice K)
  cN : Cal P w K mg base 1 "_law_next" ["_law_dice_here", "_law_many"] (spNext K)
  cQ : Cal P w K mg base 2 "_law_real" ["_law_d"] (spLawReal K)
  cZ : Cal P w K mg base 4 "_law_letters" ["_law_d", "_law_me", "_law_deeds"] (spLetters K)
  cS : Cal P w K mg base 4 "_law_sorted" ["_law_deeds"] spLawSorted
  cL : Cal P w K mg base 8 "_law_like" ["_law_found", "_law_due"] (spLike 7)
  cR : Cal P w K mg base 2 "_law_rows" ["_law_d", "_law_houses", "_law_far", "_law_most"] (spRows K)
  cI : Cal P w K mg base 9 "_law_is" ["_law_house", "_law_book", "_law_time", "_law_rows_here"] (spLawIs K C Pc)
  mX : CalM P w K mg base C 8 "take" ["self", "deeds"] (spTake K C Pc)
  mY : CalM P w K mg base C 7 "do" ["self", "word", "key", "worth"] (spDo K C)
structure TxL31 (mg : Str → Option Value) : Prop where
  range : mg "range" = none
  list : mg "list" = none
  max : mg "max" = none
def spLaw9 (K : PySem.W.Frag) (Pc : Addr) : Sp := fun vs H Q _ => ∃ (s : Addr) (ns : List Int), vs = [.ref s] ∧ SqL K H s (ns.map V.int) ∧ TabG H Pc ∧ ∀ H', Q (.bl true) H'
theorem but_seq9 {K : PySem.W.Frag} {H : Hp} {s p : Addr} {ns : List V} (hP : TabG H p) (h : SqL K H s ns) : SqL K (but H p) s ns := by
  obtain ⟨pp, hP, _⟩ := hP
  have at' : s ≠ p → but H p s = H s := fun n => by unfold but; rw [if_neg n]
  rcases h with (h | ⟨o, h⟩) | h
  · exact .inl (.inl (by rw [at' (fun e => by rw [e, hP] at h; cases h)]; exact h))
  · exact .inl (.inr ⟨o, by rw [at' (fun e => by rw [e, hP] at h; cases h)]; exact h⟩)
  · exact .inr h
structure Great (many : Int) (i : Nat) (es : List Deed) : Prop where
  ok : ∀ e ∈ es, DeedOk e ∧ e.h < many ∧ e.w ≠ .bye ∧ e.t ≤ 999000000010
  uq : Uniq es
  l : es.length ≤ 40 + i
  n : ∀ e ∈ es, e.n ≤ 1000 ∨ e.n < 1000000000 + 2 * i
theorem Great.more {many hh num tt kk : Int} {i : Nat} {es : List Deed} (G : Great many i es) (en : num = 1000000000 + 2 * i) (h0 : 0 ≤ hh) (h1 : hh < many) (m6 : many ≤ 6) (i3 : i < 3) (t0 : 0 ≤ tt) (t1 : tt < 998000000000) (k0 : 0 ≤ kk) (k1 : kk < 6) : Great many (i + 1) (es ++ [⟨hh, num, num + tt, .chg true kk 3⟩]) := by
  have eL : LIM = 1000000000000 := rfl
  have one : ∀ y ∈ es ++ [⟨hh, num, num + tt, .chg true kk 3⟩], y ∈ es ∨ y = ⟨hh, num, num + tt, .chg true kk 3⟩ := fun y hy => by simpa using hy
  refine ⟨fun e he => ?_, fun x hx y hy z => ?_, by rw [List.length_append, List.length_singleton]; have := G.l; omega, fun e he => ?_⟩
  · rcases one e he with z | rfl
    · exact G.ok e z
    · refine ⟨⟨h0, by show hh ≤ 7; omega, by show 1 ≤ num; omega, by show num ≤ num + tt; omega, by show num + tt ≤ LIM; omega, ?_⟩, h1, (fun z => by cases z), by show num + tt ≤ 999000000010; omega⟩
      show 0 ≤ kk ∧ kk ≤ 5 ∧ -LIM ≤ (3 : Int) ∧ (3 : Int) ≤ LIM
      omega
  · rcases one x hx with h | rfl <;> rcases one y hy with g | rfl
    · exact G.uq x h y g z
    · have := G.n x h
      have e2 : x.n = num := congrArg Prod.snd z
      omega
    · have := G.n y g
      have e2 : num = y.n := congrArg Prod.snd z
      omega
    · rfl
  · rcases one e he with z | rfl
    · have := G.n e z
      omega
    · exact .inr (by show num < _; omega)
abbrev N31 : List Str := ["_law_script", "_law_d", "_law_many", "_law_me", "_law_deed", "_law_deeds", "_law_far", "_law_k", "_law_number", "_law_house", "_law_book", "_law_time", "_law_letter", "_law_found", "_law_due", "_law_last", "_law_rows_here", "_law_name"]
structure S31 (K : PySem.W.Frag) (d s : Addr) (ns : List Int) (C Pc : Addr) (F H : Hp) (a : HA) (h : HD) (bk : Addr) (kvs : List (List Key × V)) (book : List Deed) : Prop where
  l9 : L9 K d s ns Pc F H
  A : HouseAt K C F H a h
  hb : H bk = some (.dT kvs)
  fb : F bk = none
  dv : DVal (kDeed.is F) keyD kvs book
  nk : bk ≠ a.ka
section
variable {K : PySem.W.Frag} {d s C Pc : Addr} {ns : List Int} {F H F' H' : Hp} {a : HA} {h : HD} {bk : Addr} {kvs : List (List Key × V)} {book : List Deed} {p r : Addr} {rs : List Row} {xs : List V}
theorem S31.same (S : S31 K d s ns C Pc F H a h bk kvs book) : Same F H := S.l9.same
theorem S31.db (S : S31 K d s ns C Pc F H a h bk kvs book) : d ≠ bk := fun e => by
  obtain ⟨i, m, r, hd, g⟩ := S.l9.dice.ex
  have := S.hb
  rw [← e, hd] at this; cases this
theorem S31.pb (S : S31 K d s ns C Pc F H a h bk kvs book) : bk ≠ Pc := fun e => by
  obtain ⟨pp, hp, _⟩ := S.l9.tab
  have := S.hb
  rw [e, hp] at this; cases this
theorem S31.ab (S : S31 K d s ns C Pc F H a h bk kvs book) : a.p ≠ bk ∧ a.ka ≠ bk ∧ a.ea ≠ bk := by
  obtain ⟨dx, ob⟩ := S.A.ob
  have he := S.A.ends
  have hb := S.hb
  refine ⟨fun e => ?_, S.nk.symm, fun e => ?_⟩
  · rw [e, hb] at ob; cases ob
  · rw [e, hb] at he; cases he
theorem S31.ad (S : S31 K d s ns C Pc F H a h bk kvs book) : a.p ≠ d ∧ a.ka ≠ d ∧ a.ea ≠ d := by
  obtain ⟨i, m, r, hd, g⟩ := S.l9.dice.ex
  obtain ⟨dx, ob⟩ := S.A.ob
  obtain ⟨k, hk, _⟩ := S.A.kept
  have he := S.A.ends
  refine ⟨fun e => ?_, fun e => ?_, fun e => ?_⟩
  · rw [e, hd] at ob; cases ob
  · rw [e, hd] at hk; cases hk
  · rw [e, hd] at he; cases he
theorem S31.step (S : S31 K d s ns C Pc F H a h bk kvs book) (X : Ext M0 F H F' H') : S31 K d s ns C Pc F' H' a h bk kvs book :=
  ⟨S.l9.step X, S.A.step0 X, X.same _ _ S.hb, by rw [X.new bk (by rw [S.hb]; simp)]; exact S.fb, S.dv.mono fun _ _ z => kDeed.mono X.ff z, S.nk⟩
theorem HouseAt.xd (A : HouseAt K C F H a h) (X : XD d F H F' H') (h1 : a.p ≠ d) (h2 : a.ka ≠ d) (h3 : a.ea ≠ d) : HouseAt K C F' H' a h := by
  obtain ⟨dx, ob⟩ := A.ob
  obtain ⟨kvs, hk, dv⟩ := A.kept
  exact ⟨⟨dx, X.hh _ _ ob h1⟩, by rw [X.nw _ _ ob (fun _ => by simp) h1]; exact A.fp, (kL kRow).mono X.ff A.rows, ⟨kvs, X.hh _ _ hk h2, dv.mono fun _ _ z => kDeed.mono X.ff z⟩,
    by rw [X.nw _ _ hk (fun _ => by simp) h2]; exact A.fk, X.hh _ _ A.ends h3, by rw [X.nw _ _ A.ends (fun _ => by simp) h3]; exact A.fe, (kL kRow).mono X.ff A.gone, (kL kInt).mono X.ff A.base, same_seqT X.ff A.mark⟩
theorem S31.drawn (S : S31 K d s ns C Pc F H a h bk kvs book) (X : XD d F H F' H') (D : DiceAt K F' H' d s ns) : S31 K d s ns C Pc F' H' a h bk kvs book := by
  obtain ⟨n1, n2, n3⟩ := S.ad
  exact ⟨S.l9.drawn X D, S.A.xd X n1 n2 n3, X.hh _ _ S.hb S.db.symm, by rw [X.nw _ _ S.hb (fun _ => by simp) S.db.symm]; exact S.fb, S.dv.mono fun _ _ z => kDeed.mono X.ff z, S.nk⟩
theorem S31.house {a' : HA} {h' : HD} (S : S31 K d s ns C Pc F H a h bk kvs book) (X : Ext (HP Pc a) F H F' H') (t : TabG H' Pc) (A' : HouseAt K C F' H' a' h') (e2 : a'.ka = a.ka) : S31 K d s ns C Pc F' H' a' h' bk kvs book := by
  obtain ⟨n1, n2, n3⟩ := S.ad
  obtain ⟨b1, b2, b3⟩ := S.ab
  obtain ⟨i, m, r, hd, g⟩ := S.l9.dice.ex
  obtain ⟨pp, hp, ht⟩ := S.l9.tab
  have nd : ¬ HP Pc a d := fun z => by
    rcases z with z | z | z | z
    · exact S.l9.nd z.symm
    · exact n1 z.symm
    · exact n2 z.symm
    · exact n3 z.symm
  have nb : ¬ HP Pc a bk := fun z => by
    rcases z with z | z | z | z
    · exact S.pb z
    · exact b1 z.symm
    · exact b2 z.symm
    · exact b3 z.symm
  exact ⟨⟨⟨X.fh, by rw [X.new d (by rw [hd]; simp)]; exact S.l9.dice.fd, X.ff.seq S.l9.dice.sc, ⟨i, m, r, X.hh _ _ hd nd, g⟩⟩, t, by rw [X.new Pc (by rw [hp]; simp)]; exact S.l9.fP⟩, A', X.hh _ _ S.hb nb, by rw [X.new bk (by rw [S.hb]; simp)]; exact S.fb, S.dv.mono fun _ _ z => kDeed.mono X.ff z, by rw [e2]; exact S.nk⟩
theorem S31.put {kvs' : List (List Key × V)} {book' : List Deed} (S : S31 K d s ns C Pc F H a h bk kvs book) (dv : DVal (kDeed.is F) keyD kvs' book') : S31 K d s ns C Pc F (upd H bk (.dT kvs')) a h bk kvs' book' := by
  obtain ⟨pp, hp, ht⟩ := S.l9.tab
  obtain ⟨b1, b2, b3⟩ := S.ab
  have X : Ext (· = bk) F H F (upd H bk (.dT kvs')) := (Ext.refl S.same).put (.inr rfl) S.fb
  exact ⟨⟨S.l9.dice.set S.db S.fb, ⟨pp, by rw [upd_ne S.pb.symm]; exact hp, ht⟩, S.l9.fP⟩, S.A.step X b1 b2 b3, upd_same, S.fb, dv, S.nk⟩
theorem S31.pc (S : S31 K d s ns C Pc F H a h bk kvs book) (X : Ext (· = Pc) F H F H') (t : TabG H' Pc) : S31 K d s ns C Pc F H' a h bk kvs book := by
  obtain ⟨i, m, r, hd, g⟩ := S.l9.dice.ex
  exact ⟨⟨⟨X.fh, S.l9.dice.fd, S.l9.dice.sc, ⟨i, m, r, X.hh _ _ hd fun e => S.l9.nd e.symm, g⟩⟩, t, S.l9.fP⟩, S.A.grow S.l9.tab X, X.hh _ _ S.hb S.pb, S.fb, S.dv, S.nk⟩
theorem S31.lay {o : HO} (S : S31 K d s ns C Pc F H a h bk kvs book) (np : H p = none) : S31 K d s ns C Pc (upd F p o) (upd H p o) a h bk kvs book := S.step ((Ext.refl S.same).lay np)
theorem S31.tmp {o : HO} (S : S31 K d s ns C Pc F H a h bk kvs book) (np : H p = none) : S31 K d s ns C Pc F (upd H p o) a h bk kvs book := S.step ((Ext.refl S.same).tmp np)
theorem S31.set {ys : List V} (S : S31 K d s ns C Pc F H a h bk kvs book) (n : d ≠ p) (f : F p = none) (e : H p = some (.lst xs)) : S31 K d s ns C Pc F (upd H p (.lst ys)) a h bk kvs book := by
  have X : Ext (· = p) F H F (upd H p (.lst ys)) := (Ext.refl S.same).put (.inr rfl) f
  exact ⟨S.l9.put f n e, S.A.step X (fun z => by obtain ⟨dx, ob⟩ := S.A.ob; rw [z, e] at ob; cases ob) (fun z => by obtain ⟨k, hk, _⟩ := S.A.kept; rw [z, e] at hk; cases hk) (fun z => by have := S.A.ends; rw [z, e] at this; cases this),
    by rw [upd_ne fun z => by have := S.hb; rw [z, e] at this; cases this]; exact S.hb, S.fb, S.dv, S.nk⟩
theorem S31.fz (S : S31 K d s ns C Pc F H a h bk kvs book) (n : d ≠ p) (f : F p = none) (e : H p = some (.lst xs)) : S31 K d s ns C Pc (upd F p (.lst xs)) H a h bk kvs book := by
  obtain ⟨l, m⟩ := S.l9.fz f n e
  exact ⟨l, S.A.frz f e, S.hb, by rw [upd_ne fun z => by have := S.hb; rw [z, e] at this; cases this]; exact S.fb, S.dv.mono fun _ _ z => kDeed.mono m z, S.nk⟩
theorem S31.si (S : S31 K d s ns C Pc F H a h bk kvs book) (k : (kL kRow).is F (.ref r) rs) : SI K C Pc H F H a h bk kvs book r rs :=
  ⟨S.same, fun b o e _ => e, fun b e => e, S.A, S.hb, S.fb, S.dv, k, S.l9.tab, S.l9.fP⟩
theorem Ext.hide {x : Addr} {H2 : Hp} (X1 : Ext M0 F H F H2) (X2 : Ext (· = x) F H2 F' H') (hx : H x = none) : Ext M0 F H F' H' :=
  ⟨X2.ff, X2.fh, fun b o e _ => X2.hh b o (X1.same _ _ e) (fun z => by rw [z, hx] at e; cases e), fun b e => X2.tr b (X1.tr b e), fun b e => X2.new b (X1.tr b e)⟩
end
section
variable {P : Program} {w : World} {K : PySem.W.Frag} {mg : Str → Option Value} {base : Heap} {C Pc km fI : Addr} {fdI : FuncData}

set_option maxHeartbeats 4000000 in
theorem ok_law {f : Addr} {fd : FuncData} (F0 : Fun K "law" "law" s_law f fd) (T : TxC K mg C) (TL : TxL31 mg) (Cs : Cals31 P w K mg base C Pc) (MK : Mk K C fI) (gH : mg "House" = some (.ref C)) (GH : FnOk P w K mg base CX0 3 fI fdI ["self", "me", "many"] (spInit K C km)) (bH : Binds K fdI ["self", "me", "many"] []) (hkm : ∀ F, SqT K F km [.int 0, .int 0, .int 0]) : FnOk P w K mg base CX0 10 f fd ["_law_script"] (spLaw9 K Pc) := by
  obtain ⟨fD, fdD, GD, gD, kpD, bD⟩ := Cs.cD
  obtain ⟨fN, fdN, GN, gN, kpN, bN⟩ := Cs.cN
  obtain ⟨fQ, fdQ, GQ, gQ, kpQ, bQ⟩ := Cs.cQ
  obtain ⟨fZ, fdZ, GZ, gZ, kpZ, bZ⟩ := Cs.cZ
  obtain ⟨fS, fdS, GS, gS, kpS, bS⟩ := Cs.cS
  obtain ⟨fL, fdL, GL, gL, kpL, bL⟩ := Cs.cL
  obtain ⟨fR, fdR, GR, gR, kpR, bR⟩ := Cs.cR
  obtain ⟨fI', fdI', GI, gI, kpI, bI⟩ := Cs.cI
  obtain ⟨fX, fdX, GX, mX, bX⟩ := Cs.mX
  obtain ⟨fY, fdY, GY, mY, bY⟩ := Cs.mY
  refine F0.ok sc_law (fun vs H Q E h => ?_) (fun cdv A outer s0 H vs Q E hr h => ?_)
  · obtain ⟨s, ns, rfl, _⟩ := h
    rfl
  · obtain ⟨s, ns, rfl, hs, hta, q⟩ := h
    have hr1 : Room 1 _ := hr.mono (by decide)
    have hr2 : Room 2 _ := hr.mono (by decide)
    have hr3 : Room 4 _ := hr.mono (by decide)
    have hr4 : Room 4 _ := hr.mono (by decide)
    have hr7 : Room 7 _ := hr.mono (by decide)
    have hr8 : Room 8 _ := hr.mono (by decide)
    have hu := hu_of hr
    refine ⟨_, (pss_cons (ps_set (i := 1) sc_law.nd rfl (.inl rfl) (pe_call GD hr1 (by rfl) gD kpD bD .nil pass0 (pa_cons (pv 0) pa_nil)))
      (pss_cons (ps_set (i := 2) sc_law.nd rfl (.inr rfl) (pe_op op_add pe_int (pe_call GN hr1 (by rfl) gN kpN bN .nil pass0 (pa_cons (pv 1) (pa_cons pe_int pa_nil)))))
      (pss_cons (ps_set (i := 3) sc_law.nd rfl (.inr rfl) (pe_call GN hr1 (by rfl) gN kpN bN .nil pass0 (pa_cons (pv 1) (pa_cons (pv 2) pa_nil))))
      (pss_cons (ps_setLc (i := 5) (own := [("_law_deed", 4)]) (g := gName 4) (tt := tTest (tOp (rI0 fun i j => .bl (decide (i < j))) (tOp (rIxT K) (tVar 4) (tC (.int 0))) (tVar 2))) (te := tVar 4) (by rfl) sc_law.nd rfl rfl (sw_true rfl rfl rfl (by decide +kernel)) (pi_list (pe_call GQ hr2 (by rfl) gQ kpQ bQ .nil pass0 (pa_cons (pv 1) pa_nil)))
        (blkOk_by (own := [("_law_deed", 4)]) (N := N31) (sc := defScope s_law) (by decide +kernel)) (fun _ _ _ _ _ => (pg_name (i := 4) sc_law.nd rfl (.inl rfl))) (fun _ _ _ _ _ => pts_one (pt_cmpR op_lt (pe_ix ix_tup (pv 4) pe_int (fun _ _ => rfl)) (pv 2) (by rfl))) (fun _ _ _ _ _ => (pv 4)))
      (pss_cons (ps_set (i := 6) sc_law.nd rfl (.inl rfl) (pe_op op_sub (pe_op op_pow pe_int pe_int) (pe_op op_mul pe_int (pe_op op_pow pe_int pe_int))))
      (pss_cons (ps_for PassesOwn.never rfl (pi_range1 (by rfl) TL.range (pa_cons (pe_call GN hr1 (by rfl) gN kpN bN .nil pass0 (pa_cons (pv 1) (pa_cons pe_int pa_nil))) pa_nil)) (pg_name (i := 7) sc_law.nd rfl (.inl rfl))
      (pss_cons (ps_set (i := 8) sc_law.nd rfl (.inl rfl) (pe_op op_add (pe_op op_pow pe_int pe_int) (pe_op op_mul pe_int (pv 7))))
      (pss_one (ps_expr (pe_bm PySem.F.plainAttrs_list PySem.F.slot_list_append PySem.F.type_list_append mt_append (pv 5) (pa_cons (pe_tup (pa_cons (pe_call GN hr1 (by rfl) gN kpN bN .nil pass0 (pa_cons (pv 1) (pa_cons (pv 2) pa_nil))) (pa_cons (pv 8) (pa_cons (pe_op op_add (pv 8) (pe_call GN hr1 (by rfl) gN kpN bN .nil pass0 (pa_cons (pv 1) (pa_cons (pv 6) pa_nil)))) (pa_cons (pe_tup (pa_cons pe_str (pa_cons (pe_call GN hr1 (by rfl) gN kpN bN .nil pass0 (pa_cons (pv 1) (pa_cons pe_int pa_nil))) (pa_cons pe_int pa_nil)))) pa_nil))))) pa_nil))))))
      (pss_cons (ps_set (i := 9) sc_law.nd rfl (.inl rfl) (pe_make MK GH hr3 (by rfl) gH bH .nil pass0 (pa_cons (pv 3) (pa_cons (pv 2) pa_nil))))
      (pss_cons (ps_set (i := 10) sc_law.nd rfl (.inr rfl) pe_dnewT)
      (pss_cons (ps_set (i := 11) sc_law.nd rfl (.inl rfl) pe_int)
      (pss_cons (ps_for PassesOwn.never rfl (pi_list (pe_call GZ hr4 (by rfl) gZ kpZ bZ .nil pass0 (pa_cons (pv 1) (pa_cons (pv 3) (pa_cons (pv 5) pa_nil))))) (pg_name (i := 12) sc_law.nd rfl (.inl rfl))
      (pss_cons (ps_set (i := 13) sc_law.nd rfl (.inl rfl) (pe_meth (pv 9) T.cl mX GX hr8 bX .nil pass0 (pa_cons (pe_callTy call_list_of (by rfl) TL.list (by decide +kernel) (pa_cons (pv 12) pa_nil)) pa_nil)))
      (pss_cons (ps_setLc (i := 14) (own := [("_law_deed", 4)]) (g := gName 4) (tt := tB (tDNotIn (tSl (rSlT K) (tVar 4) tNoPart (tPart (tC (.int 2)))) (tVar 10))) (te := tSl (rSlT K) (tVar 4) tNoPart (tPart (tC (.int 2)))) (by rfl) sc_law.nd rfl rfl (sw_true rfl rfl rfl (by decide +kernel)) (pi_list (pe_call GS hr4 (by rfl) gS kpS bS .nil pass0 (pa_cons (pv 12) pa_nil)))
        (blkOk_by (own := [("_law_deed", 4)]) (N := N31) (sc := defScope s_law) (by decide +kernel)) (fun _ _ _ _ _ => (pg_name (i := 4) sc_law.nd rfl (.inl rfl))) (fun _ _ _ _ _ => pts_one (pt_cmp (pc_dnotin hu (pe_slice sl_tup (pv 4) po_none (po_some pe_int)) (pv 10)) (by rfl))) (fun _ _ _ _ _ => (pe_slice sl_tup (pv 4) po_none (po_some pe_int))))
      (pss_cons (ps_if (pt_not (pt_val (pe_call GL hr8 (by rfl) gL kpL bL .nil pass0 (pa_cons (pv 13) (pa_cons (pv 14) pa_nil))))) (pss_one (ps_ret pe_bl)) pss_nil)
      (pss_cons (ps_for PassesOwn.never rfl (pi_list (pv 12)) (pg_name (i := 4) sc_law.nd rfl (.inl rfl))
      (pss_cons (ps_dput hu (pv 10) (pe_slice sl_tup (pv 4) po_none (po_some pe_int)) (pv 4) rfl)
      (pss_one (ps_set (i := 11) sc_law.nd rfl (.inl rfl) (pe_callB (call_max2 (by rfl)) (by rfl) TL.max (by decide +kernel) (pa_cons (pv 11) (pa_cons (pe_ix ix_tup (pv 4) pe_int (fun _ _ => rfl)) pa_nil)))))))
      (pss_cons (ps_if (pt_cmpR op_eq (pe_call GN hr1 (by rfl) gN kpN bN .nil pass0 (pa_cons (pv 1) (pa_cons pe_int pa_nil))) pe_int (nomark _)) (pss_cons (ps_set (i := 11) sc_law.nd rfl (.inl rfl) (pe_op op_add (pv 11) pe_int))
      (pss_cons (ps_set (i := 15) sc_law.nd rfl (.inl rfl) (pe_callB (cr_max (by rfl)) (by rfl) TL.max (by decide +kernel) (pa_cons (pe_op op_cat (pe_lst (pa_cons pe_int pa_nil)) (pe_lock (pe_lc (own := [("_law_name", 17)]) (g := gName 17) (tt := tTest (tOp rEq (tOp (rIxT K) (tVar 17) (tC (.int 0))) (tVar 3))) (te := tOp (rIxT K) (tVar 17) (tC (.int 1))) (by rfl) sc_law.nd (pi_keys (pv 10))
        (blkOk_by (own := [("_law_name", 17)]) (N := N31) (sc := defScope s_law) (by decide +kernel)) (fun _ _ _ _ _ => (pg_name (i := 17) sc_law.nd rfl (.inl rfl))) (fun _ _ _ _ _ => pts_one (pt_cmpR op_eq (pe_ix ix_tup (pv 17) pe_int (fun _ _ => rfl)) (pv 3) (by rfl))) (fun _ _ _ _ _ => (pe_ix ix_tup (pv 17) pe_int (fun _ _ => rfl)))))) pa_nil)))
      (pss_cons (ps_set (i := 14) sc_law.nd rfl (.inl rfl) (pe_tup (pa_cons (pv 3) (pa_cons (pe_op op_add (pv 15) pe_int) (pa_cons (pv 11) (pa_cons (pe_tup (pa_cons pe_str (pa_cons pe_int (pa_cons pe_int pa_nil)))) pa_nil))))))
      (pss_cons (ps_if (pt_not (pt_val (pe_call GL hr8 (by rfl) gL kpL bL .nil pass0 (pa_cons (pe_meth (pv 9) T.cl mY GY hr7 bY .nil pass0 (pa_cons pe_str (pa_cons pe_int (pa_cons pe_int pa_nil)))) (pa_cons (pv 14) pa_nil))))) (pss_one (ps_ret pe_bl)) pss_nil)
      (pss_one (ps_dput hu (pv 10) (pe_slice sl_tup (pv 14) po_none (po_some pe_int)) (pv 14) rfl)))))) pss_nil)
      (pss_cons (ps_set (i := 16) sc_law.nd rfl (.inl rfl) (pe_op op_cat (pe_call GR hr2 (by rfl) gR kpR bR .nil pass0 (pa_cons (pv 1) (pa_cons (pv 2) (pa_cons pe_int (pa_cons pe_int pa_nil))))) (pe_lst (pa_cons (pe_tup (pa_cons pe_int (pa_cons (pe_op op_pow pe_int pe_int) (pa_cons (pe_op op_add (pe_op op_pow pe_int pe_int) pe_int) pa_nil)))) pa_nil))))
      (pss_one (ps_if (pt_not (pt_val (pe_call GI hr (by rfl) gI kpI bI .nil pass0 (pa_cons (pv 9) (pa_cons (pv 10) (pa_cons (pv 11) (pa_cons (pv 16) pa_nil))))))) (pss_one (ps_ret pe_bl)) pss_nil)))))))))
      (pss_one (ps_ret pe_bl)))))))))))), ?_⟩
    refine ⟨_, rfl, s, ns, rfl, hs, fun d m nd gd => ?_⟩
    have L0 : L9 K d s ns Pc (but H Pc) (upd H d (dice s 0 m 0)) := by
      refine ⟨⟨but_same.trans (same_upd nd), but_same.free nd, but_seq9 hta hs, 0, m, 0, upd_same, gd⟩, ?_, but_self⟩
      obtain ⟨pp, hp, ht⟩ := hta
      exact ⟨pp, by rw [upd_ne (ne_of_none hp nd)]; exact hp, ht⟩
    revert L0
    generalize upd H d (dice s 0 m 0) = H0
    generalize but H Pc = F0'
    intro L0
    clear hta hs nd
    -- many, me
    refine ⟨_, rfl, F0', d, s, ns, 5, rfl, L0.dice, by decide, by decide, L0.retN fun z1 H1 a0 a1 L1 => ⟨_, _, rfl, rfl, ?_⟩⟩
    refine ⟨_, rfl, _, rfl, F0', d, s, ns, _, rfl, L1.dice, by omega, by omega, L1.retN fun me H2 m0 m1 L2 => ?_⟩
    generalize hmany : 2 + z1 = many at m1
    have mb : 2 ≤ many ∧ many ≤ 6 := by omega
    -- real
    refine ⟨_, rfl, F0', d, s, ns, rfl, L2.dice, L2.kept fun F3 H3 vr dr L3 m3 kr pr' => ?_⟩
    obtain ⟨ar, xr, er, har, hpr⟩ := id kr
    subst er
    refine ⟨ar, rfl, ⟨xr, SqL.of (L3.same _ _ har)⟩, fun D nD => ?_⟩
    have dD : d ≠ D := L3.dice.ne nD
    have fD : F3 D = none := L3.same.free nD
    have eL : LIM = 1000000000000 := rfl
    have ldr := pr'.len
    refine it_by (walk_list (K := K) (a := ar) (xs := xr)) (fun i H' => ∃ (acc : List V) (es : List Deed), L9 K d s ns Pc F3 H' ∧ H' D = some (.lst acc) ∧ Paired (kDeed.is F3) acc es ∧ (∀ e ∈ es, e ∈ dr.take i ∧ e.h < many) ∧ es.length ≤ i)
      ⟨[], [], L3.tmp nD, upd_same, .nil, fun e h => absurd h (by simp), Nat.le_refl _⟩ (fun i H' _ ⟨_, _, L, _⟩ => SqL.of (L.same _ _ har)) ?_ ?_
    · rintro i x' _ H4 hi ⟨acc, es, L4, hD, hacc, hsub, hle⟩ ⟨rfl, hx⟩
      obtain ⟨e, he, hev⟩ := pr_get hpr hx
      obtain ⟨ad, ud, rfl, had, _⟩ := id hev
      have eT : dr.take (i + 1) = dr.take i ++ [e] := by rw [List.take_add_one, he]; rfl
      have lacc := pr_len hacc
      have lxr := pr_len hpr
      have up : ∀ y ∈ dr.take i, y ∈ dr.take (i + 1) := fun y hy => by rw [eT]; exact List.mem_append.mpr (.inl hy)
      refine ⟨rfl, _, rfl, ad, _, 0, _, rfl, rfl, SqT.of (L4.same _ _ had), rfl, _, rfl, _, _, rfl, rfl, _, rfl, ?_⟩
      by_cases c : e.h < many
      · rw [decide_eq_true (by rw [hmany]; exact c)]
        refine ⟨_, rfl, acc, hD, by rw [sizeLine_eq]; omega, acc ++ [.ref ad], es ++ [e], L4.put fD dD hD, upd_same, pr_snoc hacc hev, fun y hy => ?_, by rw [List.length_append, List.length_singleton]; omega⟩
        rcases List.mem_append.mp hy with z | z
        · exact ⟨up y (hsub y z).1, (hsub y z).2⟩
        · rw [List.mem_singleton.mp z, eT]
          exact ⟨List.mem_append.mpr (.inr (List.mem_singleton.mpr rfl)), c⟩
      · rw [decide_eq_false (by rw [hmany]; exact c)]
        exact ⟨acc, es, L4, hD, hacc, fun y hy => ⟨up y (hsub y hy).1, (hsub y hy).2⟩, by omega⟩
    rintro H4 ⟨acc0, es0, L4, hD4, hacc0, hsub0, hle0⟩
    rw [pr_len hpr, List.take_length] at hsub0
    rw [pr_len hpr] at hle0
    -- far; some of great numbers
    refine ⟨_, _, rfl, rfl, ⟨by decide, by decide, by decide⟩, _, _, rfl, rfl, ⟨by decide, by decide, by decide⟩, _, _, rfl, rfl, .inl ⟨by decide, by decide⟩, _, _, rfl, rfl, ?_⟩
    subst hmany
    have G0 : Great (2 + z1) 0 es0 := by
      refine ⟨fun e he => ?_, fun x hx y hy z => pr'.uniq x (hsub0 x hx).1 y (hsub0 y hy).1 z, by omega, fun e he => ?_⟩
      · have h1 := hsub0 e he
        have h2 := (pr'.tame e h1.1).2.2
        exact ⟨pr'.ok e h1.1, h1.2, pr'.nb e h1.1, by omega⟩
      · have h1 := hsub0 e he
        have h2 := (pr'.tame e h1.1).2.2
        have h3 := (pr'.ok e h1.1).nt
        exact .inl (by omega)
    refine ⟨_, rfl, F3, d, s, ns, 4, rfl, L4.dice, by decide, by decide, fun z4 H5 b0 b1 X5 D5 => ?_⟩
    have L5 := L4.drawn (.of X5) D5
    have hD5 := X5.hh _ _ hD4 dD.symm
    have e9 : (10 : Int) ^ (9 : Int).toNat = 1000000000 := by decide
    refine ⟨z4, rfl, by omega, by omega, for_range (lo := 0) (n := z4.toNat) (fun i σ H' => ∃ F' acc es y7 y8, σ = [some (.ref s), some (.ref d), some (.int (2 + z1)), some (.int me), none, some (.ref D), some (.int 998000000000), y7, y8, none, none, none, none, none, none, none, none, none] ∧ L9 K d s ns Pc F' H' ∧ H' D = some (.lst acc) ∧ F' D = none ∧ Paired (kDeed.is F') acc es ∧ Great (2 + z1) i es)
      ⟨F3, acc0, es0, none, none, rfl, L5, hD5, fD, hacc0, G0⟩ ?_ ?_⟩
    · rintro i σ H6 hi ⟨F6, acc, es, y7, y8, rfl, L6, hD6, fD6, hacc6, G6⟩
      have i3 : i < 3 := by omega
      refine ⟨_, _, rfl, rfl, ⟨by decide, by decide, by decide⟩, _, rfl, _, _, rfl, rfl, .inl ⟨by decide, by decide⟩, _, _, rfl, rfl, ?_⟩
      dsimp only
      rw [e9]
      generalize hnum : (1000000000 : Int) + 2 * (0 + (i : Int)) = num
      refine ⟨_, rfl, .inl ⟨rfl, _, SqL.of hD6⟩, _, rfl, _, rfl, F6, d, s, ns, _, rfl, L6.dice, by omega, by omega, fun hh H7 h0 h1 X7 D7 => ?_⟩
      have L7 := L6.drawn (.of X7) D7
      refine ⟨_, rfl, _, rfl, _, rfl, _, rfl, F6, d, s, ns, _, rfl, L7.dice, by decide, by decide, fun tt H8 t0 t1 X8 D8 => ⟨_, _, rfl, rfl, ?_⟩⟩
      have L8 := L7.drawn (.of X8) D8
      refine ⟨_, rfl, F6, d, s, ns, 6, rfl, L8.dice, by decide, by decide, fun kk H9 k0 k1 X9 D9 => ⟨by show 3 ≤ sizeLine; decide, fun tw ntw => ⟨by show 4 ≤ sizeLine; decide, fun td ntd => ?_⟩⟩⟩
      have L9' := L8.drawn (.of X9) D9
      have hD9 := X9.hh _ _ (X8.hh _ _ (X7.hh _ _ hD6 dD.symm) dD.symm) dD.symm
      dsimp only at ntd ⊢
      have Dw : D ≠ tw := ne_of_none hD9 ntw
      obtain ⟨LA, mA⟩ := L9'.lay (o := .tup [.str "add", .int kk, .int 3]) ntw
      have hDA : upd H9 tw (.tup [.str "add", .int kk, .int 3]) D = some (.lst acc) := by rw [upd_ne Dw]; exact hD9
      have Dt : D ≠ td := ne_of_none hDA ntd
      have kw : kWhat.is (upd F6 tw (.tup [.str "add", .int kk, .int 3])) (.ref tw) (.chg true kk 3) := ⟨tw, rfl, upd_same⟩
      obtain ⟨LB, mB⟩ := LA.lay (o := .tup [.int hh, .int num, .int (num + tt), .ref tw]) ntd
      have kd : kDeed.is (upd (upd F6 tw (.tup [.str "add", .int kk, .int 3])) td (.tup [.int hh, .int num, .int (num + tt), .ref tw])) (.ref td) ⟨hh, num, num + tt, .chg true kk 3⟩ := ⟨td, .ref tw, rfl, upd_same, kWhat.mono mB kw⟩
      have hDB : upd (upd H9 tw (.tup [.str "add", .int kk, .int 3])) td (.tup [.int hh, .int num, .int (num + tt), .ref tw]) D = some (.lst acc) := by rw [upd_ne Dt]; exact hDA
      have fDB : upd (upd F6 tw (.tup [.str "add", .int kk, .int 3])) td (.tup [.int hh, .int num, .int (num + tt), .ref tw]) D = none := by rw [upd_ne Dt, upd_ne Dw]; exact fD6
      have m6 := mA.trans mB
      have la := pr_len hacc6
      have ge := G6.l
      refine ⟨D, acc, .ref td, rfl, rfl, hDB, by rw [sizeLine_eq]; omega, _, acc ++ [.ref td], es ++ [⟨hh, num, num + tt, .chg true kk 3⟩], _, _, rfl, LB.put fDB dD hDB, upd_same, fDB, pr_snoc (pr_mono (fun _ _ z => kDeed.mono m6 z) hacc6) kd, ?_⟩
      exact G6.more (by omega) h0 h1 (by omega) (by omega) t0 t1 k0 k1
    · rintro σ H6 ⟨F6, acc, es, y7, y8, rfl, L6, hD6, fD6, hacc6, G6⟩
      have z3 : z4.toNat ≤ 3 := by omega
      have LG := G6.l
      have bs : Base me (2 + z1) es 999000000010 := ⟨G6.ok, G6.uq, by omega, m0, m1, by omega, by decide, by decide⟩
      obtain ⟨LC, mC⟩ := L6.fz fD6 dD hD6
      have kE := kL_new (k := kDeed) fD6 hacc6
      revert LC kE
      generalize upd F6 D (.lst acc) = FC
      intro LC kE
      clear hD6 fD6 hacc6 L6 mC
      -- the house
      refine ⟨_, rfl, _, rfl, fun x dx nx ndx nex => ?_⟩
      have nx' : upd H6 dx (.own x) x = none := by rw [upd_ne nex.symm]; exact nx
      have X1 : Ext M0 FC H6 FC (upd (upd H6 dx (.own x)) x (.ins C dx [])) := ((Ext.refl LC.same).tmp ndx).tmp nx'
      refine ⟨FC, x, dx, me, 2 + z1, rfl, X1.fh, upd_same, LC.same.free nx, by omega, by omega, m0, m1, hkm, fun F7 H7 a XI ea AI => ⟨rfl, ?_⟩⟩
      subst ea
      have XH := Ext.hide X1 XI nx
      have L7 := LC.step XH
      have kE7 := (kL kDeed).mono XH.ff kE
      clear XI X1 XH nx' nx ndx nex LC kE
      -- the book
      refine fun bk nbk => ?_
      have S0 : S31 K d s ns C Pc F7 (upd H7 bk (.dT [])) a (newHouse me (2 + z1)) bk [] [] :=
        ⟨L7.tmp nbk, AI.step0 ((Ext.refl L7.same).tmp nbk), upd_same, L7.same.free nbk, .nil, fun e => by
          obtain ⟨kvs, hk, _⟩ := AI.kept
          rw [← e, nbk] at hk; cases hk⟩
      revert S0
      generalize upd H7 bk (.dT []) = H8
      intro S0
      clear L7 AI nbk
      -- the letters
      refine ⟨_, rfl, _, rfl, _, rfl, F7, d, s, ns, me, .ref D, es, rfl, S0.l9.dice, kE7, bs.uq, by omega, fun F8 H9 vl ls X8 D8 kls lt => ?_⟩
      have S8 := S0.drawn X8 D8
      obtain ⟨al, xl, rfl, hal, hpl⟩ := id kls
      clear X8 D8 S0
      refine ⟨al, rfl, ⟨xl, SqL.of (S8.same _ _ hal)⟩, for_list (K := K) (a := al) (xs := xl) (fun i σ H' => ∃ F' a' h kvs book own time y4 y12 y13 y14 y15 y16, σ = [some (.ref s), some (.ref d), some (.int (2 + z1)), some (.int me), y4, some (.ref D), some (.int 998000000000), y7, y8, some (.ref a'.p), some (.ref bk), some (.int time), y12, y13, y14, y15, y16, none] ∧
          S31 K d s ns C Pc F' H' a' h bk kvs book ∧ Same F8 F' ∧ Run me (2 + z1) es 999000000010 i i h book own time)
        ⟨F8, a, _, _, _, [], 0, none, none, none, none, none, none, rfl, S8, Same.refl _, Run.start (by decide)⟩ (fun i σ H' _ ⟨_, _, _, _, _, _, _, _, _, _, _, _, _, _, S, m, _⟩ => SqL.of (S.same _ _ (m _ _ hal))) ?_ ?_⟩
      · rintro i y σ H10 hi ⟨F10, a', h, kvs, book, own, time, y4, y12, y13, y14, y15, y16, rfl, S10, m10, R⟩
        obtain ⟨l, hl, kl⟩ := pr_get hpl hi
        obtain ⟨la, xs, rfl, hla, hps⟩ := id kl
        have lm := List.mem_of_getElem? hl
        obtain ⟨sub, ll⟩ := lt.sub l lm
        have il : i < ls.length := (List.getElem?_eq_some_iff.mp hl).1
        have lls := lt.len
        have i200 : i + 1 ≤ 200 := by omega
        have first : i = 0 → ∀ x ∈ es, x.h = me → ∃ m ∈ l, m.h = me ∧ x.n ≤ m.n := fun e => by
          obtain ⟨l0, rest, el, hf⟩ := lt.first
          rw [e, el] at hl
          have : l0 = l := by simpa using hl
          subst this
          exact hf
        have uq2 := R.uq bs sub
        have uql : Uniq l := fun p hp q hq e => bs.uq p (sub p hp) q (sub q hq) e
        have bl := R.bl
        have kl2 := R.kl
        have lb := bs.l
        -- found
        obtain ⟨dx, ob⟩ := S10.A.ob
        refine ⟨_, rfl, a'.p, dx, _, rfl, ob, lk_take _ _ _ _, _, rfl, la, xs, rfl, .inl (SqL.of (S10.same _ _ (m10 _ _ hla))), fun o no => ?_⟩
        have S11 := S10.lay (o := .lst xs) no
        have m11 : Same F8 (upd F10 o (.lst xs)) := m10.trans (same_upd (S10.same.free no))
        have ko : (kL kDeed).is (upd F10 o (.lst xs)) (.ref o) l := ⟨o, xs, rfl, upd_same, pr_mono (fun _ _ z => kDeed.mono m11 z) hps⟩
        revert S11 m11 ko
        generalize upd F10 o (.lst xs) = F11
        generalize upd H10 o (.lst xs) = H11
        intro S11 m11 ko
        clear S10 no ob
        refine ⟨F11, a', h, .ref o, l, rfl, S11.same, S11.A, R.o, ko, fun e he => ⟨(bs.ok e (sub e he)).1, by rw [R.emany]; exact (bs.ok e (sub e he)).2.1⟩, uql, by omega, S11.l9.tab, S11.l9.fP, fun F12 H12 a2 h2 line b vs lo X t A2 e1 e2 e3 mt fr nb fb hb pb => ?_⟩
        have db := S11.l9.dice.ne nb
        have S12 := S11.house X t A2 e2
        have S13 := S12.fz db fb hb
        have kf := kL_new (k := kPt) fb pb
        have m13 := (m11.trans X.ff).trans (same_upd (o := .lst vs) fb)
        rw [← e1]
        revert S13 kf m13
        generalize upd F12 b (.lst vs) = F13
        intro S13 kf m13
        clear S11 S12 X t A2 e1 e2 e3 nb fb hb pb db ko m11 m10
        have ndk := nm_nd R.fit.nd
        -- due
        refine ⟨_, rfl, F13, .ref la, l, rfl, S13.same, ⟨la, xs, rfl, m13 _ _ hla, pr_mono (fun _ _ z => kDeed.mono m13 z) hps⟩, uql, by omega, fun F14 H14 sa ss line' X14 nsa fsa hsa psa lo' => ?_⟩
        have el := lo'.uniq lo
        subst el
        have S14 := S13.step (X14.frz nsa fsa hsa)
        have hs14 : upd F14 sa (.lst ss) sa = some (.lst ss) := upd_same
        have ps14 := pr_mono (fun _ _ z => kDeed.mono (same_upd (o := .lst ss) fsa) z) psa
        have m14 := m13.trans (X14.frz nsa fsa hsa).ff
        have kf14 := (kL kPt).mono (X14.frz nsa fsa hsa).ff kf
        revert S14 hs14 ps14 m14 kf14
        generalize upd F14 sa (.lst ss) = F15
        intro S14 hs14 ps14 m14 kf14
        clear S13 kf m13 X14 nsa fsa hsa psa
        have lline := lo'.len
        refine ⟨sa, rfl, ⟨_, SqL.of (S14.same _ _ hs14)⟩, fun D2 nD2 => ?_⟩
        have dD2 := S14.l9.dice.ne nD2
        have fD2 := S14.same.free nD2
        refine it_by (walk_list (K := K) (a := sa) (xs := ss)) (fun j H' => ∃ F' acc, S31 K d s ns C Pc F' H' a2 h2 bk kvs book ∧ Same F15 F' ∧ F' D2 = none ∧ H' D2 = some (.lst acc) ∧ Paired (kPt.is F') acc (((line'.take j).filter fun e => !decide (name e ∈ book.map name)).map name))
          ⟨F15, [], S14.tmp nD2, Same.refl _, fD2, upd_same, .nil⟩ (fun j H' _ ⟨_, _, S, m, _⟩ => SqL.of (S.same _ _ (m _ _ hs14))) ?_ ?_
        · rintro j x _ H16 hj ⟨F16, acc, S16, m16, f16, hD16, hac⟩ ⟨rfl, hx⟩
          obtain ⟨e, he, hev⟩ := pr_get ps14 hx
          obtain ⟨ad, ud, rfl, had, _⟩ := id hev
          have eT : (line'.take (j + 1)).filter (fun e => !decide (name e ∈ book.map name)) = (line'.take j).filter (fun e => !decide (name e ∈ book.map name)) ++ [e].filter fun e => !decide (name e ∈ book.map name) := by
            rw [List.take_add_one, he, ← List.filter_append]; rfl
          have lac : acc.length ≤ 400 := by
            rw [pr_len hac, List.length_map]
            have := List.length_filter_le (fun e => !decide (name e ∈ book.map name)) (line'.take j)
            have := List.length_take_le' j line'
            omega
          refine ⟨rfl, _, rfl, 2, rfl, ad, _, rfl, SqT.of (S16.same _ _ (m16 _ _ had)), (show ¬ (HT.sIx 4 0 none = 0 ∧ HT.sIx 4 4 (some 2) = 4) by decide), fun t nt => ?_⟩
          have Dt : D2 ≠ t := ne_of_none hD16 nt
          have S17 := S16.lay (o := .tup (cutV [.int e.h, .int e.n, .int e.t, ud] none (some 2))) nt
          have ht : upd F16 t (.tup (cutV [.int e.h, .int e.n, .int e.t, ud] none (some 2))) t = some (.tup [.int e.h, .int e.n]) := upd_same
          have m17 := m16.trans (same_upd (o := .tup (cutV [.int e.h, .int e.n, .int e.t, ud] none (some 2))) (S16.same.free nt))
          have f17 : upd F16 t (.tup (cutV [.int e.h, .int e.n, .int e.t, ud] none (some 2))) D2 = none := by rw [upd_ne Dt]; exact f16
          have hD17 : upd H16 t (.tup (cutV [.int e.h, .int e.n, .int e.t, ud] none (some 2))) D2 = some (.lst acc) := by rw [upd_ne Dt]; exact hD16
          have hac17 := pr_mono (fun _ _ z => kPt.mono (same_upd (o := .tup (cutV [.int e.h, .int e.n, .int e.t, ud] none (some 2))) (S16.same.free nt)) z) hac
          revert S17 ht m17 f17 hD17 hac17
          generalize upd F16 t (.tup (cutV [V.int e.h, .int e.n, .int e.t, ud] none (some 2))) = F17
          generalize upd H16 t (.tup (cutV [V.int e.h, .int e.n, .int e.t, ud] none (some 2))) = H17
          intro S17 ht m17 f17 hD17 hac17
          refine ⟨_, rfl, bk, _, rfl, DGet.t (k := kk (name e)) S17.hb (S17.same _ _ ht), ?_⟩
          rw [has_book S17.dv ndk]
          refine ⟨_, rfl, ?_⟩
          by_cases c : name e ∈ book.map name
          · rw [decide_eq_true c]
            refine ⟨F17, acc, S17, m17, f17, hD17, ?_⟩
            rw [eT, List.filter_cons_of_neg (by simp only [decide_eq_true c]; simp), List.filter_nil, List.append_nil]
            exact hac17
          · rw [decide_eq_false c]
            refine ⟨_, rfl, 2, rfl, ad, _, rfl, SqT.of (S17.same _ _ (m17 _ _ had)), (show ¬ (HT.sIx 4 0 none = 0 ∧ HT.sIx 4 4 (some 2) = 4) by decide), fun t2 nt2 => ?_⟩
            have D2t : D2 ≠ t2 := ne_of_none hD17 nt2
            have S18 := S17.lay (o := .tup (cutV [.int e.h, .int e.n, .int e.t, ud] none (some 2))) nt2
            have f18 : upd F17 t2 (.tup (cutV [.int e.h, .int e.n, .int e.t, ud] none (some 2))) D2 = none := by rw [upd_ne D2t]; exact f17
            have hD18 : upd H17 t2 (.tup (cutV [.int e.h, .int e.n, .int e.t, ud] none (some 2))) D2 = some (.lst acc) := by rw [upd_ne D2t]; exact hD17
            have m18 : Same F17 (upd F17 t2 (.tup (cutV [.int e.h, .int e.n, .int e.t, ud] none (some 2)))) := same_upd (S17.same.free nt2)
            refine ⟨acc, hD18, by rw [sizeLine_eq]; omega, _, acc ++ [.ref t2], S18.set dD2 f18 hD18, m17.trans m18, f18, upd_same, ?_⟩
            rw [eT, List.filter_cons_of_pos (by simp only [decide_eq_false c]; rfl), List.map_append]
            exact pr_snoc (pr_mono (fun _ _ z => kPt.mono m18 z) hac17) ⟨t2, rfl, upd_same⟩
        rintro H16 ⟨F16, acc, S16, m16, f16, hD16, hac⟩
        rw [pr_len ps14, List.take_length] at hac
        have S17 := S16.fz dD2 f16 hD16
        have kd := kL_new (k := kPt) f16 hac
        have mm : Same F15 (upd F16 D2 (.lst acc)) := m16.trans (same_upd f16)
        have kf17 := (kL kPt).mono mm kf14
        have m17 := m14.trans mm
        revert S17 kd kf17 m17
        generalize upd F16 D2 (.lst acc) = F17
        intro S17 kd kf17 m17
        clear S16 m16 f16 hD16 hac mm S14 hs14 ps14 m14 kf14 dD2 fD2 nD2
        have eN : newOf line' h.rows = line'.filter fun e => !decide (name e ∈ book.map name) := by
          refine List.filter_congr fun e _ => ?_
          have : memB h.rows (name e) = decide (name e ∈ book.map name) := by
            by_cases c : name e ∈ book.map name
            · rw [decide_eq_true c]
              obtain ⟨x, hx, ex⟩ := List.mem_map.mp c
              exact memB_iff.mpr ((R.fit.mem _).mpr ⟨x, (R.fit.same x).mp hx, ex⟩)
            · rw [decide_eq_false c]
              cases z : memB h.rows (name e) with
              | false => rfl
              | true =>
                obtain ⟨x, hx, ex⟩ := (R.fit.mem _).mp (memB_iff.mp z)
                exact absurd (List.mem_map.mpr ⟨x, (R.fit.same x).mpr hx, ex⟩) c
          rw [this]
        rw [← eN] at kd
        have lnew : ((newOf line' h.rows).map name).length ≤ 100000 := by
          have := List.length_filter_le (fun d => !memB h.rows (name d)) line'
          rw [List.length_map]
          unfold newOf
          omega
        refine ⟨_, rfl, _, rfl, .ref b, .ref D2, rfl, twin_up (twin_of (k := kPt) (n := 2) (fun _ _ _ a b => twin_pt S17.same S17.same a b) S17.same S17.same kf17 kd lnew) (by decide), true, rfl, iteF ?_⟩
        clear kd kf17 lnew eN
        -- into the book
        refine ⟨_, rfl, la, rfl, ⟨xs, SqL.of (S17.same _ _ (m17 _ _ hla))⟩, for_list (K := K) (a := la) (xs := xs) (fun j σ H' => ∃ kvs' book' y4', σ = [some (.ref s), some (.ref d), some (.int (2 + z1)), some (.int me), y4', some (.ref D), some (.int 998000000000), y7, y8, some (.ref a2.p), some (.ref bk), some (.int (maxT time (l.take j))), some (.ref la), some (.ref b), some (.ref D2), y15, y16, none] ∧
            S31 K d s ns C Pc F17 H' a2 h2 bk kvs' book' ∧ (book'.map name).Nodup ∧ (∀ x, x ∈ book' ↔ x ∈ book ∨ x ∈ l.take j))
          ⟨kvs, book, _, rfl, S17, R.fit.nd, by simp⟩ (fun j σ H' _ ⟨_, _, _, _, S, _⟩ => SqL.of (S.same _ _ (m17 _ _ hla))) ?_ ?_⟩
        · rintro j y σ H18 hj ⟨kvs', book', y4', rfl, S18, nd', bm'⟩
          obtain ⟨e, he, hev⟩ := pr_get hps hj
          obtain ⟨ad, ud, rfl, had, _⟩ := id hev
          have hev17 := kDeed.mono m17 hev
          have eT : l.take (j + 1) = l.take j ++ [e] := by rw [List.take_add_one, he]; rfl
          have em := List.mem_of_getElem? he
          refine ⟨_, rfl, _, rfl, _, rfl, 2, rfl, ad, _, rfl, SqT.of (S18.same _ _ (m17 _ _ had)), (show ¬ (HT.sIx 4 0 none = 0 ∧ HT.sIx 4 4 (some 2) = 4) by decide), fun t nt => ?_⟩
          have S19 := S18.tmp (o := .tup (cutV [.int e.h, .int e.n, .int e.t, ud] none (some 2))) nt
          have ht : upd H18 t (.tup (cutV [.int e.h, .int e.n, .int e.t, ud] none (some 2))) t = some (.tup [.int e.h, .int e.n]) := upd_same
          revert S19 ht
          generalize upd H18 t (.tup (cutV [V.int e.h, .int e.n, .int e.t, ud] none (some 2))) = H19
          intro S19 ht
          have inBL : ∀ x ∈ book' ++ [e], x ∈ book ++ l := fun x hx => by
            rcases List.mem_append.mp hx with z | z
            · exact List.mem_append.mpr (((bm' x).mp z).imp id List.mem_of_mem_take)
            · rw [List.mem_singleton.mp z]; exact List.mem_append.mpr (.inr em)
          obtain ⟨book'', dv'', nd'', bm'', _⟩ := DVal.all (R := kDeed.is F17) (key := keyD) (ps := [⟨t, t, keyD e, .ref ad⟩]) (xs := [e]) (.cons ⟨rfl, hev17⟩ .nil) S19.dv (nm_nd nd') fun p hp q hq z => uq2 p (inBL p hp) q (inBL q hq) (kk_inj z)
          have lk' : kvs'.length < sizeLine := by
            have h1 := congrArg List.length S19.dv.keys
            rw [List.length_map, List.length_map] at h1
            have h2 := nodup_len book' (book ++ l) (List.Pairwise.of_map name (fun _ _ n e => n (by rw [e])) nd') fun x hx => inBL x (List.mem_append.mpr (.inl hx))
            rw [List.length_append] at h2
            rw [sizeLine_eq]
            omega
          refine ⟨bk, _, rfl, DPut.t (k := keyD e) S19.hb ht lk', ?_⟩
          have S20 := S19.put (kvs' := putK kvs' (keyD e) (.ref ad)) dv''
          revert S20
          generalize upd H19 bk (.dT (putK kvs' (keyD e) (.ref ad))) = H20
          intro S20
          refine ⟨_, rfl, _, rfl, ad, _, 2, _, rfl, rfl, SqT.of (S20.same _ _ (m17 _ _ had)), rfl, _, _, rfl, ?_⟩
          refine ⟨_, book'', some (.ref ad), ?_, S20, List.pairwise_map.mpr ((List.pairwise_map.mp nd'').imp fun {p q} n z => n (congrArg kk z)), fun x => ?_⟩
          · rw [eT, maxT_snoc]
            rfl
          · rw [bm'', bm', eT, List.mem_append, List.mem_singleton]
            exact or_assoc
        rintro σ H18 ⟨kvs', book', y4', rfl, S18, nd', bm'⟩
        rw [pr_len hps, List.take_length] at bm'
        rw [show l.take xs.length = l by rw [pr_len hps, List.take_length]]
        have R1 := R.take bs (by omega) sub first lo' mt fr bm' nd'
        clear S17 bm' nd' uq2 mt fr R
        dsimp only
        refine seq_join (fun σ' H' => ∃ F' a' h kvs book own time y14 y15, σ' = [some (.ref s), some (.ref d), some (.int (2 + z1)), some (.int me), y4', some (.ref D), some (.int 998000000000), y7, y8, some (.ref a'.p), some (.ref bk), some (.int time), some (.ref la), some (.ref b), y14, y15, y16, none] ∧
            S31 K d s ns C Pc F' H' a' h bk kvs book ∧ Same F8 F' ∧ Run me (2 + z1) es 999000000010 (i + 1) (i + 1) h book own time) ?rest fun key => ?_
        case rest =>
          rintro σ H19 ⟨F19, a3, h3, kvs3, book3, own3, time3, y14', y15', rfl, S19, m19, R3⟩
          refine ⟨_, rfl, _, rfl, F19, d, s, ns, 2 + z1, 12, 6, rfl, S19.l9.dice, by omega, by omega, by decide, by decide, by decide, by decide, fun F20 H20 ra vs rows X20 D20 nra fra hra pra lra drw => ?_⟩
          have S20 := S19.drawn (.of X20) D20
          refine ⟨_, _, rfl, rfl, ⟨by decide, by decide, by decide⟩, _, _, rfl, rfl, ⟨by decide, by decide, by decide⟩, _, _, rfl, rfl, by show 3 ≤ sizeLine; decide, fun tr ntr => ?_⟩
          dsimp only at ntr ⊢
          rw [e9]
          have rt : ra ≠ tr := ne_of_none hra ntr
          have S21 := S20.lay (o := .tup [.int 0, .int 1000000000, .int (1000000000 + 2)]) ntr
          have hra1 : upd H20 tr (.tup [.int 0, .int 1000000000, .int (1000000000 + 2)]) ra = some (.lst vs) := by rw [upd_ne rt]; exact hra
          have fra1 : upd F20 tr (.tup [.int 0, .int 1000000000, .int (1000000000 + 2)]) ra = none := by rw [upd_ne rt]; exact fra
          have mt1 : Same F20 (upd F20 tr (.tup [.int 0, .int 1000000000, .int (1000000000 + 2)])) := same_upd (S20.same.free ntr)
          have kt : kRow.is (upd F20 tr (.tup [.int 0, .int 1000000000, .int (1000000000 + 2)])) (.ref tr) (0, 1000000000, 1000000000 + 2) := ⟨tr, rfl, upd_same⟩
          have pra1 := pr_mono (fun _ _ z => kRow.mono mt1 z) pra
          revert S21 hra1 fra1 mt1 kt pra1
          generalize upd F20 tr (.tup [V.int 0, .int 1000000000, .int (1000000000 + 2)]) = F21
          generalize upd H20 tr (.tup [V.int 0, .int 1000000000, .int (1000000000 + 2)]) = H21
          intro S21 hra1 fra1 mt1 kt pra1
          refine ⟨by show 1 ≤ sizeLine; decide, fun u nu => ?_⟩
          have ru : ra ≠ u := ne_of_none hra1 nu
          have S22 := S21.tmp (o := .lst [.ref tr]) nu
          have lvs := pr_len pra
          refine ⟨ra, u, vs, [.ref tr], rfl, rfl, by rw [upd_ne ru]; exact hra1, upd_same, by rw [sizeLine_eq]; simp only [List.length_singleton]; omega, fun wl nwl => ?_⟩
          have S23 := S22.lay (o := .lst (vs ++ [.ref tr])) nwl
          have m23 : Same F21 (upd F21 wl (.lst (vs ++ [.ref tr]))) := same_upd (S22.same.free nwl)
          have kR : (kL kRow).is (upd F21 wl (.lst (vs ++ [.ref tr]))) (.ref wl) (rows ++ [(0, 1000000000, 1000000000 + 2)]) := kL_new (S22.same.free nwl) (pr_append pra1 (.cons kt .nil))
          have mA := ((m19.trans X20.ff).trans mt1).trans m23
          revert S23 kR mA
          generalize upd F21 wl (.lst (vs ++ [V.ref tr])) = F23
          generalize upd (upd H21 u (.lst [V.ref tr])) wl (.lst (vs ++ [V.ref tr])) = H23
          intro S23 kR mA
          clear S22 S21 S20 S19 X20 D20 nra fra hra pra hra1 fra1 mt1 kt pra1 m23
          have bl3 := R3.bl
          have lens : (rows ++ [((0 : Int), (1000000000 : Int), (1000000000 + 2 : Int))]).length ≤ 7 := by rw [List.length_append, List.length_singleton]; omega
          have eachr : ∀ r ∈ rows ++ [((0 : Int), (1000000000 : Int), (1000000000 + 2 : Int))], 0 ≤ r.1 ∧ r.1 ≤ 7 ∧ 1 ≤ r.2.1 ∧ r.2.1 ≤ r.2.2 ∧ r.2.2 ≤ r.2.1 + 399 ∧ r.2.2 ≤ 1000000000000 := fun r hr => by
            rcases List.mem_append.mp hr with z | z
            · have := drw r z
              unfold Drawn at this
              omega
            · rw [List.mem_singleton.mp z]
              decide
          refine ⟨_, rfl, _, rfl, _, rfl, _, rfl, F23, a3, h3, bk, kvs3, book3, wl, _, time3, rfl, S23.si kR, R3.o, R3.fit, by omega, ⟨by omega, fun r hr => ?_⟩, ⟨by omega, fun r hr => ?_⟩, fun H24 X24 t24 => ⟨true, rfl, iteF ?_⟩⟩
          · have := eachr r hr
            exact ⟨this.1, this.2.1, this.2.2.1, this.2.2.2.1, by rw [eL]; exact this.2.2.2.2.2⟩
          · have := eachr r hr
            exact ⟨this.2.2.1, this.2.2.2.1, this.2.2.2.2.1, this.2.2.2.2.2⟩
          · exact ⟨F23, a3, h3, kvs3, book3, own3, time3, _, _, _, _, _, _, rfl, S23.pc X24 t24, mA, R3⟩
        refine ⟨_, rfl, F17, d, s, ns, 3, rfl, S18.l9.dice, by decide, by decide, fun z19 H19 c0 c1 X19 D19 => ⟨rfl, _, rfl, ?_⟩⟩
        have S19 := S18.drawn (.of X19) D19
        by_cases c : z19 = 0
        · rw [decide_eq_true (show V.int z19 = V.int 0 by rw [c])]
          refine iteT ⟨_, rfl, _, _, rfl, rfl, ?_⟩
          dsimp only
          generalize ht2 : maxT time l = t2 at R1
          have k19 : kvs'.length = book'.length := by have := congrArg List.length S19.dv.keys; rw [List.length_map, List.length_map] at this; exact this
          have bl1 := R1.bl
          -- last
          refine ⟨by show 1 ≤ sizeLine; decide, fun u nu => ?_⟩
          have S20 := S19.tmp (o := .lst [.int 0]) nu
          have hu20 : upd H19 u (.lst [.int 0]) u = some (.lst [.int 0]) := upd_same
          revert S20 hu20
          generalize upd H19 u (.lst [V.int 0]) = H20
          intro S20 hu20
          refine ⟨bk, .dT kvs', S20.hb, trivial, fun od => ⟨_, rfl, bk, od, rfl, .inr ⟨kvs', upd_same, fun D3 nD3 => ?_⟩⟩⟩
          have Db : D3 ≠ bk := fun e => by rw [e, upd_same] at nD3; cases nD3
          have nD0 : H20 D3 = none := by rw [upd_ne Db] at nD3; exact nD3
          refine it_by (walk_keysT (d := bk) (o := od) (kvs := kvs')) (fun j H' => ∃ acc : List Int, H' = upd (upd H20 bk (.frz od (.dT kvs'))) D3 (.lst (acc.map V.int)) ∧ (∀ y, y ∈ acc ↔ (me, y) ∈ (book'.take j).map name) ∧ acc.length ≤ j)
            ⟨[], rfl, fun y => ⟨fun z => absurd z (by simp), fun z => absurd z (by simp)⟩, Nat.le_refl _⟩ (fun j H' _ ⟨_, e, _⟩ => by rw [e, upd_ne Db.symm]; exact upd_same) ?_ ?_
          · rintro j x _ H21 hj ⟨acc, rfl, hac, lac⟩ ⟨rfl, k, v, kq, hkv, rfl, hq⟩
            have hjb : j < book'.length := by omega
            have ek : k = keyD book'[j] := by
              have := congrArg (fun l => l[j]?) S20.dv.keys
              simp only [List.getElem?_map, hkv, List.getElem?_eq_getElem hjb, Option.map_some, Option.some.injEq] at this
              exact this
            subst ek
            have hq' : upd (upd H20 bk (.frz od (.dT kvs'))) D3 (.lst (acc.map V.int)) kq = some (.tup [.int book'[j].h, .int book'[j].n]) := hq
            have eT : (book'.take (j + 1)).map name = (book'.take j).map name ++ [name book'[j]] := by
              rw [List.take_add_one, List.getElem?_eq_getElem hjb, List.map_append]; rfl
            refine ⟨rfl, _, rfl, kq, _, 0, _, rfl, rfl, SqT.of hq', rfl, _, rfl, rfl, _, rfl, ?_⟩
            by_cases c2 : book'[j].h = me
            · rw [decide_eq_true (show V.int book'[j].h = V.int me by rw [c2])]
              refine ⟨_, rfl, kq, _, 1, _, rfl, rfl, SqT.of hq', rfl, acc.map V.int, upd_same, by rw [sizeLine_eq, List.length_map]; omega, acc ++ [book'[j].n], ?_, fun y => ?_, by rw [List.length_append, List.length_singleton]; omega⟩
              · rw [show ∀ (G : Hp) (p : Addr) (x y : HO), upd (upd G p x) p y = upd G p y from fun G p x y => funext fun b => by by_cases e : b = p <;> simp [upd, e], List.map_append]
                rfl
              · rw [eT, List.mem_append, List.mem_append, hac, List.mem_singleton, List.mem_singleton]
                refine or_congr Iff.rfl ⟨fun z => Prod.ext c2.symm z, fun z => congrArg Prod.snd z⟩
            · rw [decide_eq_false (show ¬ V.int book'[j].h = V.int me from fun z => c2 (V.int.inj z))]
              refine ⟨acc, rfl, fun y => ?_, by omega⟩
              rw [eT, List.mem_append, hac, List.mem_singleton]
              exact ⟨.inl, fun z => z.elim id fun z => absurd (congrArg Prod.fst z).symm c2⟩
          rintro H21 ⟨acc, rfl, hac, lac⟩
          rw [k19, List.take_length] at hac
          refine ⟨by rw [upd_ne Db.symm]; exact upd_same, ?_⟩
          have eH : upd (upd (upd H20 bk (.frz od (.dT kvs'))) D3 (.lst (acc.map V.int))) bk (.dT kvs') = upd H20 D3 (.lst (acc.map V.int)) := funext fun b => by
            by_cases e : b = bk
            · rw [e, upd_same, upd_ne Db.symm]; exact S20.hb.symm
            · rw [upd_ne e]
              by_cases e2 : b = D3
              · rw [e2, upd_same, upd_same]
              · rw [upd_ne e2, upd_ne e2, upd_ne e]
          rw [eH]
          have S21 := S20.tmp (o := .lst (acc.map V.int)) nD0
          have uD : u ≠ D3 := ne_of_none hu20 nD0
          have hu21 : upd H20 D3 (.lst (acc.map V.int)) u = some (.lst [.int 0]) := by rw [upd_ne uD]; exact hu20
          have hD21 : upd H20 D3 (.lst (acc.map V.int)) D3 = some (.lst (acc.map V.int)) := upd_same
          revert S21 hu21 hD21
          generalize upd H20 D3 (.lst (acc.map V.int)) = H21
          intro S21 hu21 hD21
          refine ⟨u, D3, [.int 0], acc.map V.int, rfl, rfl, hu21, hD21, by rw [sizeLine_eq, List.length_map]; simp only [List.length_singleton]; omega, fun w0 nw0 => ?_⟩
          have S22 := S21.tmp (o := .lst ([.int 0] ++ acc.map V.int)) nw0
          refine ⟨w0, 0 :: acc, rfl, SqL.of upd_same, by simp, fun mx mx1 mx2 => ?_⟩
          have emx := R1.last hac mx1 mx2
          subst emx
          revert S22
          generalize upd H21 w0 (.lst ([V.int 0] ++ acc.map V.int)) = H22
          intro S22
          clear S21 hu21 hD21 S20 hu20 S19 eH nD0 nD3 X19 D19 S18
          -- due
          refine ⟨_, rfl, _, rfl, _, _, rfl, rfl, _, rfl, by show 3 ≤ sizeLine; decide, fun tw ntw => ⟨by show 4 ≤ sizeLine; decide, fun td ntd => ?_⟩⟩
          dsimp only at ntd ⊢
          have ed : own5 h2 = ⟨me, lastOf h2.rows h2.me + 1, t2 + 1, .chg false 2 5⟩ := by
            unfold own5 nextD
            rw [R1.eme, R1.fit.time]
          have S23 := S22.lay (o := .tup [.str "put", .int 2, .int 5]) ntw
          have kw : kWhat.is (upd F17 tw (.tup [.str "put", .int 2, .int 5])) (.ref tw) (.chg false 2 5) := ⟨tw, rfl, upd_same⟩
          have S24 := S23.lay (o := .tup [.int me, .int (lastOf h2.rows h2.me + 1), .int (t2 + 1), .ref tw]) ntd
          have mw : Same F17 (upd F17 tw (.tup [.str "put", .int 2, .int 5])) := same_upd (S22.same.free ntw)
          have md := same_upd (o := .tup [.int me, .int (lastOf h2.rows h2.me + 1), .int (t2 + 1), .ref tw]) (S23.same.free ntd)
          have kd : kDeed.is (upd (upd F17 tw (.tup [.str "put", .int 2, .int 5])) td (.tup [.int me, .int (lastOf h2.rows h2.me + 1), .int (t2 + 1), .ref tw])) (.ref td) (own5 h2) := by
            rw [ed]
            exact ⟨td, .ref tw, rfl, upd_same, kWhat.mono md kw⟩
          have htd : upd (upd F17 tw (.tup [.str "put", .int 2, .int 5])) td (.tup [.int me, .int (lastOf h2.rows h2.me + 1), .int (t2 + 1), .ref tw]) td = some (.tup [.int me, .int (lastOf h2.rows h2.me + 1), .int (t2 + 1), .ref tw]) := upd_same
          have m24 := (m17.trans mw).trans md
          revert S24 kd htd m24
          generalize upd (upd F17 tw (.tup [V.str "put", .int 2, .int 5])) td (.tup [.int me, .int (lastOf h2.rows h2.me + 1), .int (t2 + 1), .ref tw]) = F24
          generalize upd (upd H22 tw (.tup [V.str "put", .int 2, .int 5])) td (.tup [.int me, .int (lastOf h2.rows h2.me + 1), .int (t2 + 1), .ref tw]) = H24
          intro S24 kd htd m24
          clear S23 S22 mw md kw
          obtain ⟨dx24, ob24⟩ := S24.A.ob
          refine ⟨_, rfl, a2.p, dx24, _, rfl, ob24, lk_do _ _ _ _, F24, a2, h2, false, 2, 5, rfl, S24.same, S24.A, R1.o, by decide, by decide, by decide, by decide, fun n z => by rw [R1.ends] at z; exact (List.not_mem_nil z).elim, R1.fresh bs (by omega), fun F25 H25 a3 h3 uv X25 A3 g1 g2 g3 ku mt3 => ?_⟩
          have tab25 : TabG H25 Pc := by
            obtain ⟨pp, hp, hpt⟩ := S24.l9.tab
            refine ⟨pp, X25.hh _ _ hp fun z => ?_, hpt⟩
            obtain ⟨n1, n2, n3⟩ := S24.A.np ⟨pp, hp, hpt⟩
            rcases z with z | z | z
            · exact n1 z.symm
            · exact n2 z.symm
            · exact n3 z.symm
          have S25 := S24.house (X25.mono HP.hm) tab25 A3 g2
          have okd : DeedOk (own5 h2) := (R1.fresh bs (by omega)).ok _ (List.mem_singleton.mpr rfl)
          refine ⟨_, rfl, uv, .ref td, rfl, twin_up (twin_deed okd S25.same S25.same ku (kDeed.mono X25.ff kd)) (by decide), true, rfl, iteF ?_⟩
          -- into the book
          have htd25 := X25.ff _ _ htd
          refine ⟨_, rfl, _, rfl, _, rfl, 2, rfl, td, _, rfl, SqT.of (S25.same _ _ htd25), (show ¬ (HT.sIx 4 0 none = 0 ∧ HT.sIx 4 4 (some 2) = 4) by decide), fun t nt => ?_⟩
          have S26 := S25.tmp (o := .tup (cutV [.int me, .int (lastOf h2.rows h2.me + 1), .int (t2 + 1), .ref tw] none (some 2))) nt
          have ht : upd H25 t (.tup (cutV [.int me, .int (lastOf h2.rows h2.me + 1), .int (t2 + 1), .ref tw] none (some 2))) t = some (.tup [.int me, .int (lastOf h2.rows h2.me + 1)]) := upd_same
          revert S26 ht
          generalize upd H25 t (.tup (cutV [V.int me, .int (lastOf h2.rows h2.me + 1), .int (t2 + 1), .ref tw] none (some 2))) = H26
          intro S26 ht
          have ekey : keyD (own5 h2) = [Sum.inl me, Sum.inl (lastOf h2.rows h2.me + 1)] := by rw [ed]; rfl
          have uqn : Uniq (book' ++ [own5 h2]) := by
            have hn := (R1.fresh bs (by omega)).nd
            have nb : (h2.kept ++ [own5 h2]).map name = h2.kept.map name ++ [name (own5 h2)] := by rw [List.map_append]; rfl
            have ub := uniq_nd hn
            intro p hp q hq z
            refine ub p ?_ q ?_ z
            · rw [List.mem_append] at hp ⊢
              exact hp.imp (R1.fit.same p).mp id
            · rw [List.mem_append] at hq ⊢
              exact hq.imp (R1.fit.same q).mp id
          obtain ⟨book'', dv'', nd'', bm'', _⟩ := DVal.all (R := kDeed.is F25) (key := keyD) (ps := [⟨t, t, keyD (own5 h2), .ref td⟩]) (xs := [own5 h2]) (.cons ⟨rfl, kDeed.mono X25.ff kd⟩ .nil) S26.dv (nm_nd R1.fit.nd) fun p hp q hq z => uqn p hp q hq (kk_inj z)
          refine ⟨bk, _, rfl, DPut.t (k := keyD (own5 h2)) S26.hb (by rw [ekey]; exact ht) (by rw [sizeLine_eq]; omega), ?_⟩
          have S27 := S26.put (kvs' := putK kvs' (keyD (own5 h2)) (.ref td)) dv''
          rw [show a2.p = a3.p from g1.symm]
          exact key _ _ ⟨F25, a3, h3, _, book'', _, _, _, _, rfl, S27, m24.trans X25.ff, R1.does bs (by omega) (by omega) mt3 (fun x => by rw [bm'', List.mem_singleton]) (List.pairwise_map.mpr ((List.pairwise_map.mp nd'').imp fun {p q} n z => n (congrArg kk z)))⟩
        · rw [decide_eq_false (show ¬ V.int z19 = V.int 0 from fun z => c (V.int.inj z))]
          exact iteF (key _ _ ⟨F17, a2, h2, _, _, _, _, _, _, rfl, S19, m17, R1.more⟩)
      · rintro σ H10 ⟨F10, a', h, kvs, book, own, time, y4, y12, y13, y14, y15, y16, rfl, S10, m10, R⟩
        exact q _
end
end Rw
namespace Rw
open PySem PySem.Spec PyProof.Rows L2
/-! ### what the head tells -/
def HasFn (K : PySem.W.Frag) (x : Str) (st : Stmt) : Prop := ∃ (f : Addr) (oc : Value) (od an : Option Addr) (osl : Array (Option Value)) (kV doc pm cdv ct : Value),
  PySem.W.nsIn K mainGlobals x = some (some (.ref f)) ∧ K.lookup f = some ⟨oc, od, .func (PySem.W.fnOf x x (defArgs st) (defBody st) (defScope st) .none kV doc pm an cdv ct), osl⟩ ∧ PySem.W.codeIn K cdv x = true ∧ PySem.W.keepIn K (.ref f) = true
theorem has_mk {K : PySem.W.Frag} {x : Str} {st : Stmt} {f : Addr} {oc : Value} {od an : Option Addr} {osl : Array (Option Value)} {kV doc pm cdv ct : Value}
    (a : PySem.W.nsIn K mainGlobals x = some (some (.ref f))) (l : K.lookup f = some ⟨oc, od, .func (PySem.W.fnOf x x (defArgs st) (defBody st) (defScope st) .none kV doc pm an cdv ct), osl⟩) (c : PySem.W.codeIn K cdv x = true) (k : PySem.W.keepIn K (.ref f) = true) : HasFn K x st :=
  ⟨f, oc, od, an, osl, kV, doc, pm, cdv, ct, a, l, c, k⟩
def tabOkIn (K : PySem.W.Frag) (x : Str) : Bool := match PySem.W.tabIn K x with
  | some (_, P) => (K.lookup P).isNone
  | none => false
theorem tab_ok {K : PySem.W.Frag} {x : Str} (h : tabOkIn K x = true) : ∃ c P, PySem.W.tabIn K x = some (c, P) ∧ K.lookup P = none := by
  unfold tabOkIn at h
  split at h
  · rename_i c P e
    exact ⟨c, P, e, Option.isNone_iff_eq_none.mp h⟩
  · cases h
def HasInt (K : PySem.W.Frag) (x : Str) (z : Int) : Prop := ∃ t, PySem.W.nsIn K mainGlobals x = some (some (.int z t))
theorem int_mk {K : PySem.W.Frag} {x : Str} {z : Int} {t : Tok} (a : PySem.W.nsIn K mainGlobals x = some (some (.int z t))) : HasInt K x z := ⟨t, a⟩
theorem HasFn.fn {K : PySem.W.Frag} {x : Str} {st : Stmt} {h : Heap} {mg : Str → Option Value} (H : HasFn K x st) (X : K.In h) (G : h.Ns mainGlobals mg) : ∃ (f : Addr) (fd : FuncData), Fun K x x st f fd ∧ mg x = some (.ref f) := by
  obtain ⟨f, oc, od, an, osl, kV, doc, pm, cdv, ct, a, l, c, k⟩ := H
  exact ⟨f, _, fun_mk (st := st) l c k, PySem.W.mg_of X G a⟩
theorem HasInt.mg {K : PySem.W.Frag} {x : Str} {z : Int} {h : Heap} {mg : Str → Option Value} (H : HasInt K x z) (X : K.In h) (G : h.Ns mainGlobals mg) : ∃ t, mg x = some (.int z t) := by
  obtain ⟨t, a⟩ := H
  exact ⟨t, PySem.W.mg_of X G a⟩
def HasMeth (K : PySem.W.Frag) (C : Addr) (m q : Str) (st : Stmt) : Prop := ∃ (f : Addr) (oc : Value) (od an : Option Addr) (osl : Array (Option Value)) (kV doc pm cdv ct : Value),
  PySem.W.findIn K (.ref C) m = some (some (.ref f)) ∧ PySem.W.isFn K (.ref f) = true ∧ K.lookup f = some ⟨oc, od, .func (PySem.W.fnOf m q (defArgs st) (defBody st) (defScope st) .none kV doc pm an cdv ct), osl⟩ ∧ PySem.W.codeIn K cdv q = true ∧ PySem.W.keepIn K (.ref f) = true
theorem meth_mk {K : PySem.W.Frag} {C : Addr} {m q : Str} {st : Stmt} {f : Addr} {oc : Value} {od an : Option Addr} {osl : Array (Option Value)} {kV doc pm cdv ct : Value} (a : PySem.W.findIn K (.ref C) m = some (some (.ref f))) (i : PySem.W.isFn K (.ref f) = true)
    (l : K.lookup f = some ⟨oc, od, .func (PySem.W.fnOf m q (defArgs st) (defBody st) (defScope st) .none kV doc pm an cdv ct), osl⟩) (c : PySem.W.codeIn K cdv q = true) (k : PySem.W.keepIn K (.ref f) = true) : HasMeth K C m q st :=
  ⟨f, oc, od, an, osl, kV, doc, pm, cdv, ct, a, i, l, c, k⟩
structure IsHouse (K : PySem.W.Frag) (C : Addr) : Prop where
  aC : PySem.W.nsIn K mainGlobals "House" = some (some (.ref C))
  pg : PySem.W.plainGet K C Str.empty = true
  hd : PySem.W.hasDictIn K C = true
  po : PySem.W.plainOver K C = true
  sa : PySem.W.findIn K (.ref C) "__setattr__" = some (some (.builtin "object.__setattr__"))
  mks : PySem.W.makesIn K C = true
  kc : PySem.W.keepIn K (.ref C) = true
  n_me : PySem.W.findIn K (.ref C) "_me" = some none
  n_many : PySem.W.findIn K (.ref C) "_many" = some none
  n_time : PySem.W.findIn K (.ref C) "_time" = some none
  n_rows : PySem.W.findIn K (.ref C) "_rows" = some none
  n_kept : PySem.W.findIn K (.ref C) "_kept" = some none
  n_ends : PySem.W.findIn K (.ref C) "_ends" = some none
  n_gone : PySem.W.findIn K (.ref C) "_gone" = some none
  n_base : PySem.W.findIn K (.ref C) "_base" = some none
  n_mark : PySem.W.findIn K (.ref C) "_mark" = some none
  m_now : HasMeth K C "now" "House.now" s_House_now
  m_done : HasMeth K C "done" "House.done" s_House_done
  m_deeds : HasMeth K C "deeds" "House.deeds" s_House_deeds
  m_worths : HasMeth K C "worths" "House.worths" s_House_worths
  m__meet : HasMeth K C "_meet" "House._meet" s_House__meet
  m_lacks : HasMeth K C "lacks" "House.lacks" s_House_lacks
  m_gives : HasMeth K C "gives" "House.gives" s_House_gives
  m__do_next : HasMeth K C "_do_next" "House._do_next" s_House__do_next
  m_do : HasMeth K C "do" "House.do" s_House_do
  m_take : HasMeth K C "take" "House.take" s_House_take
  m_init : HasMeth K C "__init__" "House.__init__" s_House___init__
theorem house_mk {K : PySem.W.Frag} {C : Addr} (I : IsHouse K C) : ∃ C, IsHouse K C := ⟨C, I⟩
def HasCut (K : PySem.W.Frag) : Prop := ∃ (km : Addr) (od : Option Addr) (n : Nat) (osl : Array (Option Value)) (t1 t2 t3 : Tok), PySem.W.nsIn K mainGlobals "NEVER_CUT" = some (some (.ref km)) ∧ K.lookup km = some ⟨.type "tuple", od, .seq #[.int 0 t1, .int 0 t2, .int 0 t3] n, osl⟩
theorem cut_mk {K : PySem.W.Frag} {km : Addr} {od : Option Addr} {n : Nat} {osl : Array (Option Value)} {t1 t2 t3 : Tok} (a : PySem.W.nsIn K mainGlobals "NEVER_CUT" = some (some (.ref km))) (l : K.lookup km = some ⟨.type "tuple", od, .seq #[.int 0 t1, .int 0 t2, .int 0 t3] n, osl⟩) : HasCut K := ⟨km, od, n, osl, t1, t2, t3, a, l⟩
structure Head (K : PySem.W.Frag) : Prop where
  fis_number : HasFn K "is_number" s_is_number
  fis_house : HasFn K "is_house" s_is_house
  fis_row : HasFn K "is_row" s_is_row
  ffirst_wrong : HasFn K "first_wrong" s_first_wrong
  fis_in : HasFn K "is_in" s_is_in
  fchanges_of : HasFn K "changes_of" s_changes_of
  freaching : HasFn K "reaching" s_reaching
  ffewest : HasFn K "fewest" s_fewest
  fwithout : HasFn K "without" s_without
  fcheck_rows : HasFn K "check_rows" s_check_rows
  fname_of : HasFn K "name_of" s_name_of
  fword_of : HasFn K "word_of" s_word_of
  fis_change : HasFn K "is_change" s_is_change
  fis_name : HasFn K "is_name" s_is_name
  fis_sealed : HasFn K "is_sealed" s_is_sealed
  fis_what : HasFn K "is_what" s_is_what
  fis_deed : HasFn K "is_deed" s_is_deed
  fin_order : HasFn K "in_order" s_in_order
  fis_lasting : HasFn K "is_lasting" s_is_lasting
  fvoid_in : HasFn K "void_in" s_void_in
  ftaken_in : HasFn K "taken_in" s_taken_in
  fstanding : HasFn K "standing" s_standing
  fworths_behind : HasFn K "worths_behind" s_worths_behind
  fno_worths : HasFn K "no_worths" s_no_worths
  flast_in : HasFn K "last_in" s_last_in
  frows_of : HasFn K "rows_of" s_rows_of
  fcheck_many : HasFn K "check_many" s_check_many
  fcheck_one_of : HasFn K "check_one_of" s_check_one_of
  f_law_dice : HasFn K "_law_dice" s_law_dice
  f_law_next : HasFn K "_law_next" s_law_next
  f_law_rows : HasFn K "_law_rows" s_law_rows
  f_law_told_rows : HasFn K "_law_told_rows" s_law_told_rows
  f_law_stamp : HasFn K "_law_stamp" s_law_stamp
  f_law_sorted : HasFn K "_law_sorted" s_law_sorted
  f_law_has : HasFn K "_law_has" s_law_has
  f_law_is_void : HasFn K "_law_is_void" s_law_is_void
  f_law_marks : HasFn K "_law_marks" s_law_marks
  f_law_alive : HasFn K "_law_alive" s_law_alive
  f_law_worths : HasFn K "_law_worths" s_law_worths
  f_law_real : HasFn K "_law_real" s_law_real
  f_law_letters : HasFn K "_law_letters" s_law_letters
  f_law_like : HasFn K "_law_like" s_law_like
  fstamp : HasFn K "stamp" s_stamp
  f_law_names : HasFn K "_law_names" s_law_names
  f_law_is : HasFn K "_law_is" s_law_is
  flaw : HasFn K "law" s_law
  last : HasInt K "LAST_HOUSE" 7
  most : HasInt K "MOST_ROWS" 200
  key : HasInt K "LAST_KEY" 5
  least : HasInt K "LEAST_HOUSES" 2
  mosth : HasInt K "MOST_HOUSES" 6
  tis_in : tabOkIn K "is_in" = true
  zisinstance : PySem.W.nsIn K mainGlobals "isinstance" = some none
  zint : PySem.W.nsIn K mainGlobals "int" = some none
  zbool : PySem.W.nsIn K mainGlobals "bool" = some none
  zstr : PySem.W.nsIn K mainGlobals "str" = some none
  ztuple : PySem.W.nsIn K mainGlobals "tuple" = some none
  zlist : PySem.W.nsIn K mainGlobals "list" = some none
  zlen : PySem.W.nsIn K mainGlobals "len" = some none
  zenumerate : PySem.W.nsIn K mainGlobals "enumerate" = some none
  zsorted : PySem.W.nsIn K mainGlobals "sorted" = some none
  zrange : PySem.W.nsIn K mainGlobals "range" = some none
  zmin : PySem.W.nsIn K mainGlobals "min" = some none
  zmax : PySem.W.nsIn K mainGlobals "max" = some none
  zany : PySem.W.nsIn K mainGlobals "any" = some none
  zreversed : PySem.W.nsIn K mainGlobals "reversed" = some none
  zdict : PySem.W.nsIn K mainGlobals "dict" = some none
  house : ∃ C, IsHouse K C
  cut : HasCut K
theorem tab_conv {base : Heap} {mg : Str → Option Value} {c P : Addr} (h : LamX.TabB base mg c P) : GxR.TabB base mg c P := ⟨h.code, h.bm, h.gP⟩
set_option maxHeartbeats 8000000 in
theorem all_ok {P : Program} {w : World} {K : PySem.W.Frag} {h base : Heap} {mg : Str → Option Value} {fa : Addr} {Pis_in cis_in : Addr} (D : Head K) (X : K.In h) (G : h.Ns mainGlobals mg) (lim : ∃ t, mg "LIMIT" = some (.int LIM t)) (TBis_in : GxR.TabB base mg cis_in Pis_in) (htis_in : PySem.W.tabIn K "is_in" = some (cis_in, Pis_in)) {fd : FuncData} (F : Fun K "law" "law" s_law fa fd) : FnOk P w K mg base CX0 10 fa fd ["_law_script"] (spLaw9 K Pis_in) := by
  have T : TxA mg := ⟨PySem.W.mg_none_of X G D.zisinstance, PySem.W.mg_none_of X G D.zint, PySem.W.mg_none_of X G D.zbool, PySem.W.mg_none_of X G D.ztuple, PySem.W.mg_none_of X G D.zlen, PySem.W.mg_none_of X G D.zenumerate, D.last.mg X G, lim, D.most.mg X G⟩
  have TB : TxB mg := ⟨PySem.W.mg_none_of X G D.zsorted⟩
  have TL : TxL mg := ⟨PySem.W.mg_none_of X G D.zint, PySem.W.mg_none_of X G D.zlen, PySem.W.mg_none_of X G D.zrange, PySem.W.mg_none_of X G D.zmin⟩
  have TN : TxN mg := ⟨PySem.W.mg_none_of X G D.zrange, PySem.W.mg_none_of X G D.zsorted⟩
  have TK : TxK mg := ⟨PySem.W.mg_none_of X G D.zisinstance, PySem.W.mg_none_of X G D.zint, PySem.W.mg_none_of X G D.zbool, PySem.W.mg_none_of X G D.zstr, PySem.W.mg_none_of X G D.ztuple, PySem.W.mg_none_of X G D.zlist, PySem.W.mg_none_of X G D.zlen, PySem.W.mg_none_of X G D.zrange⟩
  have TD : TxD mg := ⟨T, D.key.mg X G, PySem.W.mg_none_of X G D.zlist⟩
  have TO : TxO mg := ⟨PySem.W.mg_none_of X G D.zsorted⟩
  have TT : TxT mg := ⟨PySem.W.mg_none_of X G D.zreversed⟩
  have TW : TxW mg := ⟨PySem.W.mg_none_of X G D.ztuple⟩
  have TR : TxR mg := ⟨PySem.W.mg_none_of X G D.zmax⟩
  have TG : TxG mg := ⟨PySem.W.mg_none_of X G D.zdict, PySem.W.mg_none_of X G D.zsorted⟩
  have TH : TxH mg := ⟨PySem.W.mg_none_of X G D.zmax, PySem.W.mg_none_of X G D.zlist⟩
  have TE : TxE mg := ⟨PySem.W.mg_none_of X G D.zenumerate⟩
  have TLet : TxLet mg := ⟨PySem.W.mg_none_of X G D.zlist, PySem.W.mg_none_of X G D.zlen, PySem.W.mg_none_of X G D.zmin, PySem.W.mg_none_of X G D.zrange, PySem.W.mg_none_of X G D.zsorted⟩
  have TL31 : TxL31 mg := ⟨PySem.W.mg_none_of X G D.zrange, PySem.W.mg_none_of X G D.zlist, PySem.W.mg_none_of X G D.zmax⟩
  obtain ⟨fS, fdS, FS, gS⟩ := D.fstamp.fn X G
  have zany : mg "any" = none := PySem.W.mg_none_of X G D.zany
  have least := D.least.mg X G
  have mosth := D.mosth.mg X G
  have c_is_number : Cal P w K mg base 1 "is_number" ["value", "low", "high"] spIsNumber := by
    obtain ⟨f, fd, F1, g⟩ := D.fis_number.fn X G
    exact ⟨f, fd, ok_is_number F1 T, g, F1.kp, F1.binds (ps := ["value", "low", "high"]) fun _ _ _ _ _ _ us hl => match us, hl with | [_, _, _], _ => rfl⟩
  have c_is_house : Cal P w K mg base 2 "is_house" ["value"] spIsHouse := by
    obtain ⟨f, fd, F1, g⟩ := D.fis_house.fn X G
    exact ⟨f, fd, ok_is_house F1 T c_is_number, g, F1.kp, F1.binds (ps := ["value"]) fun _ _ _ _ _ _ us hl => match us, hl with | [_], _ => rfl⟩
  have c_is_row : Cal P w K mg base 3 "is_row" ["row"] spIsRow := by
    obtain ⟨f, fd, F1, g⟩ := D.fis_row.fn X G
    exact ⟨f, fd, ok_is_row F1 T c_is_number c_is_house, g, F1.kp, F1.binds (ps := ["row"]) fun _ _ _ _ _ _ us hl => match us, hl with | [_], _ => rfl⟩
  have c_first_wrong : Cal P w K mg base 4 "first_wrong" ["rows"] spFirstWrong := by
    obtain ⟨f, fd, F1, g⟩ := D.ffirst_wrong.fn X G
    exact ⟨f, fd, ok_first_wrong F1 T c_is_row, g, F1.kp, F1.binds (ps := ["rows"]) fun _ _ _ _ _ _ us hl => match us, hl with | [_], _ => rfl⟩
  have c_is_in : Cal P w K mg base 2 "is_in" ["rows", "house", "number"] (spIsIn Pis_in) := by
    obtain ⟨f, oc, od, an, osl, kV, doc, pm, cdv, ct, a, l, c1, k⟩ := D.fis_in
    have e : cdv = .ref cis_in := PySem.W.law_code X G htis_in (PySem.W.mg_of X G a) (X _ _ l) rfl
    subst e
    exact ⟨f, _, ok_is_in ⟨⟨oc, od, kV, doc, pm, an, ct, osl, rfl, l, c1⟩⟩ TBis_in zany, PySem.W.mg_of X G a, k, (fun_mk (st := s_is_in) l c1 k).binds (ps := ["rows", "house", "number"]) fun _ _ _ _ _ _ us hl => match us, hl with | [_, _, _], _ => rfl⟩
  have c_changes_of : Cal P w K mg base 1 "changes_of" ["weighed"] spChangesOf := by
    obtain ⟨f, fd, F1, g⟩ := D.fchanges_of.fn X G
    exact ⟨f, fd, ok_changes_of F1 , g, F1.kp, F1.binds (ps := ["weighed"]) fun _ _ _ _ _ _ us hl => match us, hl with | [_], _ => rfl⟩
  have c_reaching : Cal P w K mg base 2 "reaching" ["weighed", "least"] spReaching := by
    obtain ⟨f, fd, F1, g⟩ := D.freaching.fn X G
    exact ⟨f, fd, ok_reaching F1 TB c_changes_of, g, F1.kp, F1.binds (ps := ["weighed", "least"]) fun _ _ _ _ _ _ us hl => match us, hl with | [_, _], _ => rfl⟩
  have c_fewest : Cal P w K mg base 3 "fewest" ["rows"] spFewest := by
    obtain ⟨f, fd, F1, g⟩ := D.ffewest.fn X G
    exact ⟨f, fd, ok_fewest F1 c_reaching, g, F1.kp, F1.binds (ps := ["rows"]) fun _ _ _ _ _ _ us hl => match us, hl with | [_], _ => rfl⟩
  have c_without : Cal P w K mg base 4 "without" ["one", "other"] spWithout := by
    obtain ⟨f, fd, F1, g⟩ := D.fwithout.fn X G
    exact ⟨f, fd, ok_without F1 c_reaching c_fewest, g, F1.kp, F1.binds (ps := ["one", "other"]) fun _ _ _ _ _ _ us hl => match us, hl with | [_, _], _ => rfl⟩
  have c_check_rows : Cal P w K mg base 5 "check_rows" ["rows"] spCheckRows := by
    obtain ⟨f, fd, F1, g⟩ := D.fcheck_rows.fn X G
    exact ⟨f, fd, ok_check_rows F1 c_first_wrong, g, F1.kp, F1.binds (ps := ["rows"]) fun _ _ _ _ _ _ us hl => match us, hl with | [_], _ => rfl⟩
  have c_name_of : Cal P w K mg base 1 "name_of" ["deed"] spNameOf := by
    obtain ⟨f, fd, F1, g⟩ := D.fname_of.fn X G
    exact ⟨f, fd, ok_name_of F1 , g, F1.kp, F1.binds (ps := ["deed"]) fun _ _ _ _ _ _ us hl => match us, hl with | [_], _ => rfl⟩
  have c_word_of : Cal P w K mg base 1 "word_of" ["deed"] spWordOf := by
    obtain ⟨f, fd, F1, g⟩ := D.fword_of.fn X G
    exact ⟨f, fd, ok_word_of F1 , g, F1.kp, F1.binds (ps := ["deed"]) fun _ _ _ _ _ _ us hl => match us, hl with | [_], _ => rfl⟩
  have c_is_change : Cal P w K mg base 2 "is_change" ["parts"] spIsChange := by
    obtain ⟨f, fd, F1, g⟩ := D.fis_change.fn X G
    exact ⟨f, fd, ok_is_change F1 TD c_is_number, g, F1.kp, F1.binds (ps := ["parts"]) fun _ _ _ _ _ _ us hl => match us, hl with | [_], _ => rfl⟩
  have c_is_name : Cal P w K mg base 3 "is_name" ["parts"] spIsName := by
    obtain ⟨f, fd, F1, g⟩ := D.fis_name.fn X G
    exact ⟨f, fd, ok_is_name F1 TD c_is_number c_is_house, g, F1.kp, F1.binds (ps := ["parts"]) fun _ _ _ _ _ _ us hl => match us, hl with | [_], _ => rfl⟩
  have c_is_sealed : Cal P w K mg base 5 "is_sealed" ["parts"] spIsSealed := by
    obtain ⟨f, fd, F1, g⟩ := D.fis_sealed.fn X G
    exact ⟨f, fd, ok_is_sealed F1 TD c_first_wrong c_fewest, g, F1.kp, F1.binds (ps := ["parts"]) fun _ _ _ _ _ _ us hl => match us, hl with | [_], _ => rfl⟩
  have c_is_what : Cal P w K mg base 6 "is_what" ["what"] spIsWhat := by
    obtain ⟨f, fd, F1, g⟩ := D.fis_what.fn X G
    exact ⟨f, fd, ok_is_what F1 TD c_is_change c_is_name c_is_sealed, g, F1.kp, F1.binds (ps := ["what"]) fun _ _ _ _ _ _ us hl => match us, hl with | [_], _ => rfl⟩
  have c_is_deed : Cal P w K mg base 7 "is_deed" ["deed"] spIsDeed := by
    obtain ⟨f, fd, F1, g⟩ := D.fis_deed.fn X G
    exact ⟨f, fd, ok_is_deed F1 TD c_is_number c_is_name c_is_what, g, F1.kp, F1.binds (ps := ["deed"]) fun _ _ _ _ _ _ us hl => match us, hl with | [_], _ => rfl⟩
  have c_in_order : Cal P w K mg base 4 "in_order" ["deeds"] spInOrder := by
    obtain ⟨f, fd, F1, g⟩ := D.fin_order.fn X G
    exact ⟨f, fd, ok_in_order F1 FS gS TO c_name_of, g, F1.kp, F1.binds (ps := ["deeds"]) fun _ _ _ _ _ _ us hl => match us, hl with | [_], _ => rfl⟩
  have c_is_lasting : Cal P w K mg base 2 "is_lasting" ["deed"] spIsLasting := by
    obtain ⟨f, fd, F1, g⟩ := D.fis_lasting.fn X G
    exact ⟨f, fd, ok_is_lasting F1 c_word_of, g, F1.kp, F1.binds (ps := ["deed"]) fun _ _ _ _ _ _ us hl => match us, hl with | [_], _ => rfl⟩
  have c_void_in : Cal P w K mg base 4 "void_in" ["line", "gone"] (spVoidIn Pis_in) := by
    obtain ⟨f, fd, F1, g⟩ := D.fvoid_in.fn X G
    exact ⟨f, fd, ok_void_in F1 TD c_is_in c_fewest c_name_of, g, F1.kp, F1.binds (ps := ["line", "gone"]) fun _ _ _ _ _ _ us hl => match us, hl with | [_, _], _ => rfl⟩
  have c_taken_in : Cal P w K mg base 5 "taken_in" ["line", "gone"] (spTakenIn Pis_in) := by
    obtain ⟨f, fd, F1, g⟩ := D.ftaken_in.fn X G
    exact ⟨f, fd, ok_taken_in F1 TT c_void_in c_name_of c_word_of, g, F1.kp, F1.binds (ps := ["line", "gone"]) fun _ _ _ _ _ _ us hl => match us, hl with | [_, _], _ => rfl⟩
  have c_standing : Cal P w K mg base 6 "standing" ["line", "gone"] (spStanding Pis_in) := by
    obtain ⟨f, fd, F1, g⟩ := D.fstanding.fn X G
    exact ⟨f, fd, ok_standing F1 c_taken_in c_name_of c_is_lasting, g, F1.kp, F1.binds (ps := ["line", "gone"]) fun _ _ _ _ _ _ us hl => match us, hl with | [_, _], _ => rfl⟩
  have c_worths_behind : Cal P w K mg base 7 "worths_behind" ["base", "line", "gone"] (spBehind Pis_in) := by
    obtain ⟨f, fd, F1, g⟩ := D.fworths_behind.fn X G
    exact ⟨f, fd, ok_worths_behind F1 TD c_standing, g, F1.kp, F1.binds (ps := ["base", "line", "gone"]) fun _ _ _ _ _ _ us hl => match us, hl with | [_, _, _], _ => rfl⟩
  have c_no_worths : Cal P w K mg base 1 "no_worths" [] spNoWorths := by
    obtain ⟨f, fd, F1, g⟩ := D.fno_worths.fn X G
    exact ⟨f, fd, ok_no_worths F1 TD, g, F1.kp, F1.binds (ps := []) fun _ _ _ _ _ _ us hl => match us, hl with | [], _ => rfl⟩
  have c_last_in : Cal P w K mg base 4 "last_in" ["rows", "house"] spLastIn := by
    obtain ⟨f, fd, F1, g⟩ := D.flast_in.fn X G
    exact ⟨f, fd, ok_last_in F1 TH, g, F1.kp, F1.binds (ps := ["rows", "house"]) fun _ _ _ _ _ _ us hl => match us, hl with | [_, _], _ => rfl⟩
  have c_rows_of : Cal P w K mg base 4 "rows_of" ["deeds"] spRowsOf := by
    obtain ⟨f, fd, F1, g⟩ := D.frows_of.fn X G
    exact ⟨f, fd, ok_rows_of F1 c_fewest, g, F1.kp, F1.binds (ps := ["deeds"]) fun _ _ _ _ _ _ us hl => match us, hl with | [_], _ => rfl⟩
  have c_check_many : Cal P w K mg base 2 "check_many" ["many"] spCheckMany := by
    obtain ⟨f, fd, F1, g⟩ := D.fcheck_many.fn X G
    exact ⟨f, fd, ok_check_many F1 least mosth c_is_number, g, F1.kp, F1.binds (ps := ["many"]) fun _ _ _ _ _ _ us hl => match us, hl with | [_], _ => rfl⟩
  have c_check_one_of : Cal P w K mg base 2 "check_one_of" ["which", "many"] spCheckOneOf := by
    obtain ⟨f, fd, F1, g⟩ := D.fcheck_one_of.fn X G
    exact ⟨f, fd, ok_check_one_of F1 c_is_number, g, F1.kp, F1.binds (ps := ["which", "many"]) fun _ _ _ _ _ _ us hl => match us, hl with | [_, _], _ => rfl⟩
  have c__law_dice : Cal P w K mg base 1 "_law_dice" ["_law_script"] (spDice K) := by
    obtain ⟨f, fd, F1, g⟩ := D.f_law_dice.fn X G
    exact ⟨f, fd, ok_law_dice F1 TL, g, F1.kp, F1.binds (ps := ["_law_script"]) fun _ _ _ _ _ _ us hl => match us, hl with | [_], _ => rfl⟩
  have c__law_next : Cal P w K mg base 1 "_law_next" ["_law_dice_here", "_law_many"] (spNext K) := by
    obtain ⟨f, fd, F1, g⟩ := D.f_law_next.fn X G
    exact ⟨f, fd, ok_law_next F1 TL, g, F1.kp, F1.binds (ps := ["_law_dice_here", "_law_many"]) fun _ _ _ _ _ _ us hl => match us, hl with | [_, _], _ => rfl⟩
  have c__law_rows : Cal P w K mg base 2 "_law_rows" ["_law_d", "_law_houses", "_law_far", "_law_most"] (spRows K) := by
    obtain ⟨f, fd, F1, g⟩ := D.f_law_rows.fn X G
    exact ⟨f, fd, ok_law_rows F1 TL c__law_next, g, F1.kp, F1.binds (ps := ["_law_d", "_law_houses", "_law_far", "_law_most"]) fun _ _ _ _ _ _ us hl => match us, hl with | [_, _, _, _], _ => rfl⟩
  have c__law_told_rows : Cal P w K mg base 1 "_law_told_rows" ["_law_names_here"] spTold := by
    obtain ⟨f, fd, F1, g⟩ := D.f_law_told_rows.fn X G
    exact ⟨f, fd, ok_law_told_rows F1 , g, F1.kp, F1.binds (ps := ["_law_names_here"]) fun _ _ _ _ _ _ us hl => match us, hl with | [_], _ => rfl⟩
  have c__law_stamp : Cal P w K mg base 1 "_law_stamp" ["_law_deed"] spLawStamp := by
    obtain ⟨f, fd, F1, g⟩ := D.f_law_stamp.fn X G
    exact ⟨f, fd, ok_law_stamp F1 , g, F1.kp, F1.binds (ps := ["_law_deed"]) fun _ _ _ _ _ _ us hl => match us, hl with | [_], _ => rfl⟩
  have c__law_sorted : Cal P w K mg base 4 "_law_sorted" ["_law_deeds"] spLawSorted := by
    obtain ⟨f, fd, F1, g⟩ := D.f_law_sorted.fn X G
    exact ⟨f, fd, ok_law_sorted F1 TG c__law_stamp, g, F1.kp, F1.binds (ps := ["_law_deeds"]) fun _ _ _ _ _ _ us hl => match us, hl with | [_], _ => rfl⟩
  have c__law_has : Cal P w K mg base 1 "_law_has" ["_law_rows_here", "_law_name"] spLawHas := by
    obtain ⟨f, fd, F1, g⟩ := D.f_law_has.fn X G
    exact ⟨f, fd, ok_law_has F1 , g, F1.kp, F1.binds (ps := ["_law_rows_here", "_law_name"]) fun _ _ _ _ _ _ us hl => match us, hl with | [_, _], _ => rfl⟩
  have c__law_is_void : Cal P w K mg base 2 "_law_is_void" ["_law_deeds", "_law_back"] spLawIsVoid := by
    obtain ⟨f, fd, F1, g⟩ := D.f_law_is_void.fn X G
    exact ⟨f, fd, ok_law_is_void F1 c__law_stamp c__law_has, g, F1.kp, F1.binds (ps := ["_law_deeds", "_law_back"]) fun _ _ _ _ _ _ us hl => match us, hl with | [_, _], _ => rfl⟩
  have c__law_marks : Cal P w K mg base 5 "_law_marks" ["_law_deeds"] spLawMarks := by
    obtain ⟨f, fd, F1, g⟩ := D.f_law_marks.fn X G
    exact ⟨f, fd, ok_law_marks F1 c__law_sorted c__law_is_void, g, F1.kp, F1.binds (ps := ["_law_deeds"]) fun _ _ _ _ _ _ us hl => match us, hl with | [_], _ => rfl⟩
  have c__law_alive : Cal P w K mg base 6 "_law_alive" ["_law_deeds"] spLawAlive := by
    obtain ⟨f, fd, F1, g⟩ := D.f_law_alive.fn X G
    exact ⟨f, fd, ok_law_alive F1 c__law_marks c__law_sorted, g, F1.kp, F1.binds (ps := ["_law_deeds"]) fun _ _ _ _ _ _ us hl => match us, hl with | [_], _ => rfl⟩
  have c__law_worths : Cal P w K mg base 7 "_law_worths" ["_law_deeds"] spLawWorths := by
    obtain ⟨f, fd, F1, g⟩ := D.f_law_worths.fn X G
    exact ⟨f, fd, ok_law_worths F1 c__law_alive, g, F1.kp, F1.binds (ps := ["_law_deeds"]) fun _ _ _ _ _ _ us hl => match us, hl with | [_], _ => rfl⟩
  have c__law_real : Cal P w K mg base 2 "_law_real" ["_law_d"] (spLawReal K) := by
    obtain ⟨f, fd, F1, g⟩ := D.f_law_real.fn X G
    exact ⟨f, fd, ok_law_real F1 TL TN TW TR c__law_next c__law_told_rows, g, F1.kp, F1.binds (ps := ["_law_d"]) fun _ _ _ _ _ _ us hl => match us, hl with | [_], _ => rfl⟩
  have c__law_letters : Cal P w K mg base 4 "_law_letters" ["_law_d", "_law_me", "_law_deeds"] (spLetters K) := by
    obtain ⟨f, fd, F1, g⟩ := D.f_law_letters.fn X G
    exact ⟨f, fd, ok_law_letters F1 TLet c__law_next, g, F1.kp, F1.binds (ps := ["_law_d", "_law_me", "_law_deeds"]) fun _ _ _ _ _ _ us hl => match us, hl with | [_, _, _], _ => rfl⟩
  have c__law_like : Cal P w K mg base 8 "_law_like" ["_law_found", "_law_due"] (spLike 7) := by
    obtain ⟨f, fd, F1, g⟩ := D.f_law_like.fn X G
    have bd : Binds K fd ["_law_found", "_law_due"] [] := F1.binds (ps := ["_law_found", "_law_due"]) fun _ _ _ _ _ _ us hl => match us, hl with | [_, _], _ => rfl
    have c0 : FnOk P w K mg base CX0 1 f fd ["_law_found", "_law_due"] (spLike 0) := ⟨fun vs H Q E z => by obtain ⟨_, _, _, z, _⟩ := z; exact z.elim, fun A outer s H args us vs Q E _ _ _ _ z => by obtain ⟨_, _, _, z, _⟩ := z; exact z.elim⟩
    have c1 := ok_law_like (n := 0) F1 TK ⟨f, fd, c0, g, F1.kp, bd⟩
    have c2 := ok_law_like (n := 1) F1 TK ⟨f, fd, c1, g, F1.kp, bd⟩
    have c3 := ok_law_like (n := 2) F1 TK ⟨f, fd, c2, g, F1.kp, bd⟩
    have c4 := ok_law_like (n := 3) F1 TK ⟨f, fd, c3, g, F1.kp, bd⟩
    have c5 := ok_law_like (n := 4) F1 TK ⟨f, fd, c4, g, F1.kp, bd⟩
    have c6 := ok_law_like (n := 5) F1 TK ⟨f, fd, c5, g, F1.kp, bd⟩
    have c7 := ok_law_like (n := 6) F1 TK ⟨f, fd, c6, g, F1.kp, bd⟩
    exact ⟨f, fd, c7, g, F1.kp, bd⟩
  have c__law_hasL : Cal P w K mg base 1 "_law_has" ["_law_rows_here", "_law_name"] spLawHasL := by
    obtain ⟨f, fd, F1, g⟩ := D.f_law_has.fn X G
    exact ⟨f, fd, ok_law_hasL F1, g, F1.kp, F1.binds (ps := ["_law_rows_here", "_law_name"]) fun _ _ _ _ _ _ us hl => match us, hl with | [_, _], _ => rfl⟩
  have c__law_namesB : Cal P w K mg base 1 "_law_names" ["_law_rows_here"] spNamesB := by
    obtain ⟨f, fd, F1, g⟩ := D.f_law_names.fn X G
    exact ⟨f, fd, ok_law_namesB F1 TN, g, F1.kp, F1.binds (ps := ["_law_rows_here"]) fun _ _ _ _ _ _ us hl => match us, hl with | [_], _ => rfl⟩
  obtain ⟨C, I⟩ := D.house
  have TC : TxC K mg C := ⟨⟨I.pg, I.hd, I.po, I.sa⟩, I.n_me, I.n_many, I.n_time, I.n_rows, I.n_kept, I.n_ends, I.n_gone, I.n_base, I.n_mark⟩
  have gH := PySem.W.mg_of X G I.aC
  have m_now : CalM P w K mg base C 1 "now" ["self"] (spNow K C) := by
    obtain ⟨f, oc, od, an, osl, kV, doc, pm, cdv, ct, a, i, l, c1, k⟩ := I.m_now
    have F1 := fun_mk (st := s_House_now) l c1 k
    exact ⟨f, _, ok_House_now F1 TC, ⟨a, i, k⟩, F1.binds (ps := ["self"]) fun _ _ _ _ _ _ us hl => match us, hl with | [_], _ => rfl⟩
  have m_done : CalM P w K mg base C 1 "done" ["self"] (spDone K C) := by
    obtain ⟨f, oc, od, an, osl, kV, doc, pm, cdv, ct, a, i, l, c1, k⟩ := I.m_done
    have F1 := fun_mk (st := s_House_done) l c1 k
    exact ⟨f, _, ok_House_done F1 TC TH, ⟨a, i, k⟩, F1.binds (ps := ["self"]) fun _ _ _ _ _ _ us hl => match us, hl with | [_], _ => rfl⟩
  have m_deeds : CalM P w K mg base C 5 "deeds" ["self"] (spDeeds K C) := by
    obtain ⟨f, oc, od, an, osl, kV, doc, pm, cdv, ct, a, i, l, c1, k⟩ := I.m_deeds
    have F1 := fun_mk (st := s_House_deeds) l c1 k
    exact ⟨f, _, ok_House_deeds F1 TC TH c_in_order, ⟨a, i, k⟩, F1.binds (ps := ["self"]) fun _ _ _ _ _ _ us hl => match us, hl with | [_], _ => rfl⟩
  have m_worths : CalM P w K mg base C 8 "worths" ["self"] (spHWorths K C Pis_in) := by
    obtain ⟨f, oc, od, an, osl, kV, doc, pm, cdv, ct, a, i, l, c1, k⟩ := I.m_worths
    have F1 := fun_mk (st := s_House_worths) l c1 k
    exact ⟨f, _, ok_House_worths F1 TC c_worths_behind m_deeds, ⟨a, i, k⟩, F1.binds (ps := ["self"]) fun _ _ _ _ _ _ us hl => match us, hl with | [_], _ => rfl⟩
  have m__meet : CalM P w K mg base C 5 "_meet" ["self", "new"] (spMeet K C) := by
    obtain ⟨f, oc, od, an, osl, kV, doc, pm, cdv, ct, a, i, l, c1, k⟩ := I.m__meet
    have F1 := fun_mk (st := s_House__meet) l c1 k
    exact ⟨f, _, ok_House__meet F1 TC TH c_name_of c_word_of c_fewest c_rows_of, ⟨a, i, k⟩, F1.binds (ps := ["self", "new"]) fun _ _ _ _ _ _ us hl => match us, hl with | [_, _], _ => rfl⟩
  have m_lacks : CalM P w K mg base C 6 "lacks" ["self", "rows"] (spLacks K C) := by
    obtain ⟨f, oc, od, an, osl, kV, doc, pm, cdv, ct, a, i, l, c1, k⟩ := I.m_lacks
    have F1 := fun_mk (st := s_House_lacks) l c1 k
    exact ⟨f, _, ok_House_lacks F1 TC c_check_rows c_without, ⟨a, i, k⟩, F1.binds (ps := ["self", "rows"]) fun _ _ _ _ _ _ us hl => match us, hl with | [_, _], _ => rfl⟩
  have m_gives : CalM P w K mg base C 6 "gives" ["self", "rows"] (spGives K C Pis_in) := by
    obtain ⟨f, oc, od, an, osl, kV, doc, pm, cdv, ct, a, i, l, c1, k⟩ := I.m_gives
    have F1 := fun_mk (st := s_House_gives) l c1 k
    exact ⟨f, _, ok_House_gives F1 TC c_check_rows m_deeds c_is_in, ⟨a, i, k⟩, F1.binds (ps := ["self", "rows"]) fun _ _ _ _ _ _ us hl => match us, hl with | [_, _], _ => rfl⟩
  have m__do_next : CalM P w K mg base C 6 "_do_next" ["self", "what"] (spDoNext K C) := by
    obtain ⟨f, oc, od, an, osl, kV, doc, pm, cdv, ct, a, i, l, c1, k⟩ := I.m__do_next
    have F1 := fun_mk (st := s_House__do_next) l c1 k
    exact ⟨f, _, ok_House__do_next F1 TC c_last_in m__meet, ⟨a, i, k⟩, F1.binds (ps := ["self", "what"]) fun _ _ _ _ _ _ us hl => match us, hl with | [_, _], _ => rfl⟩
  have m_do : CalM P w K mg base C 7 "do" ["self", "word", "key", "worth"] (spDo K C) := by
    obtain ⟨f, oc, od, an, osl, kV, doc, pm, cdv, ct, a, i, l, c1, k⟩ := I.m_do
    have F1 := fun_mk (st := s_House_do) l c1 k
    exact ⟨f, _, ok_House_do F1 TC c_is_change m__do_next, ⟨a, i, k⟩, F1.binds (ps := ["self", "word", "key", "worth"]) fun _ _ _ _ _ _ us hl => match us, hl with | [_, _, _, _], _ => rfl⟩
  have m_take : CalM P w K mg base C 8 "take" ["self", "deeds"] (spTake K C Pis_in) := by
    obtain ⟨f, oc, od, an, osl, kV, doc, pm, cdv, ct, a, i, l, c1, k⟩ := I.m_take
    have F1 := fun_mk (st := s_House_take) l c1 k
    exact ⟨f, _, ok_House_take F1 TC TE c_is_deed c_in_order c_is_in c_name_of m__meet, ⟨a, i, k⟩, F1.binds (ps := ["self", "deeds"]) fun _ _ _ _ _ _ us hl => match us, hl with | [_, _], _ => rfl⟩
  obtain ⟨km, odk, nk, oslk, t1, t2, t3, ak, lk⟩ := D.cut
  have hkm : mg "NEVER_CUT" = some (.ref km) := PySem.W.mg_of X G ak
  have sqk : ∀ F, SqT K F km [.int 0, .int 0, .int 0] := fun F => .inr ⟨_, _, _, lk, rfl, rfl, by show 3 ≤ sizeLine; decide, .cons ⟨t1, rfl⟩ (.cons ⟨t2, rfl⟩ (.cons ⟨t3, rfl⟩ .nil))⟩
  obtain ⟨fI, oc, od, an, osl, kV, doc, pm, cdv, ct, a, i, l, c1, k⟩ := I.m_init
  have FI := fun_mk (st := s_House___init__) l c1 k
  have GI := ok_House___init__ (P := P) (w := w) (base := base) FI TC hkm c_check_many c_check_one_of c_no_worths
  have c__law_is : Cal P w K mg base 9 "_law_is" ["_law_house", "_law_book", "_law_time", "_law_rows_here"] (spLawIs K C Pis_in) := by
    obtain ⟨f, fd, F1, g⟩ := D.f_law_is.fn X G
    exact ⟨f, fd, ok_law_is F1 TC TN ⟨c__law_told_rows, c__law_sorted, c__law_worths, c__law_like, c__law_namesB, c__law_hasL, m_done, m_deeds, m_worths, m_now, m_lacks, m_gives⟩, g, F1.kp, F1.binds (ps := ["_law_house", "_law_book", "_law_time", "_law_rows_here"]) fun _ _ _ _ _ _ us hl => match us, hl with | [_, _, _, _], _ => rfl⟩
  exact ok_law F TC TL31 ⟨c__law_dice, c__law_next, c__law_real, c__law_letters, c__law_sorted, c__law_like, c__law_rows, c__law_is, m_take, m_do⟩ ⟨I.mks, a, i, I.kc⟩ gH GI (FI.binds (ps := ["self", "me", "many"]) fun _ _ _ _ _ _ us hl => match us, hl with | [_, _, _], _ => rfl) sqk
theorem walk {l : PySem.W.OpenLaw} {q : Program} {loose : List Str} {lv : List (Str × PySem.W.WData)} {YP : World → Heap → Prop} {d : DefRec} {K : Params → PySem.W.Frag} (hn : l.most = some 63) (hdf : d.params.defaults = []) (hnm : d.name = "law")
    (hY : ∀ (w : World) (h : Heap), YP w h → (K w.params).In h) (hrecis_in : ((recsOf q).find? (fun e => e.name == ("is_in" : Str))).isSome = true) (hlv : (("LIMIT" : Str), PySem.W.WData.int LIM) ∈ lv) (D : ∀ w : World, Head (K w.params)) :
    PySem.W.WalkO q loose (PySem.W.XL q lv) YP l.row.toRowW d [] (fun f vs => PySem.call f vs) := by
  refine Att.attach_callB hn hdf fun w s₀ s₁ mg mb fa o pm cd doc a vs ns G Y ho hd hcd hmg hobj hints hlen hbits hg => ?_
  have KX := hY w _ Y
  have Dw := D w
  rw [hnm] at hmg
  obtain ⟨f, oc, od, an, osl, kV, doc', pm', cdv, ct, a1, l1, c1, k1⟩ := Dw.flaw
  have e := hmg.symm.trans (PySem.W.mg_of KX G.T.g a1)
  cases e
  have lim : ∃ t, mg "LIMIT" = some (.int LIM t) := by
    obtain ⟨v, hv, hr⟩ := G.X.2.val _ hlv
    cases hr
    exact ⟨_, hv⟩
  obtain ⟨cis_in, Pis_in, tis_in, nis_in⟩ := tab_ok Dw.tis_in
  obtain ⟨dis_in, hdis_in⟩ := Option.isSome_iff_exists.mp hrecis_in
  obtain ⟨hcis_in, hPis_in⟩ := PySem.W.tab_of G.T KX hdis_in tis_in
  have one : ∀ {φ : Addr × Addr → Prop} (his_in : φ (cis_in, Pis_in)), ∀ p ∈ [(cis_in, Pis_in)], φ p := fun his_in p hp => by
    simp only [List.mem_cons, List.not_mem_nil, or_false] at hp
    rcases hp with rfl
    · exact his_in
  exact LamX.law_callTs (cs := [(cis_in, Pis_in)]) (k := 10) (x := "_law_script") (CX := CX0) (sp := spLaw9 (K w.params) Pis_in) KX G.T.g G.T.b G.T.builtins G.T.nolimit hg (one hPis_in) (one nis_in) (one hcis_in) G.T.bmain hobj hints (Nat.le_trans hlen (by decide)) ⟨rfl, by decide, by decide⟩
    (fun base _ _ hT => all_ok Dw KX G.T.g lim (tab_conv (hT _ List.mem_cons_self)) tis_in (fun_mk (st := s_law) l1 c1 k1)) (fun s u => .of_eq rfl) (fun H hH hS => ⟨a, ns, rfl, hS, ⟨_, hH _ List.mem_cons_self, trivial⟩, fun _ => rfl⟩) fun H e s' z => z
end Rw
open PySem PySem.W PyProof.Rows in
set_option maxRecDepth 100000 in
set_option maxHeartbeats 0 in
theorem PySem.Challenge.cw_doneranges_k31_brought_up_by_pieces_holds : PySem.Challenge.rw_doneranges_k31_brought_up_by_pieces.Holds := by
  w_on; o_law; k_head; (case hw => w_witness2)
  k_fill
  refine Rw.walk (l := PySem.Challenge.rw_doneranges_k31_brought_up_by_pieces) rfl rfl rfl (fun w h Y => PySem.W.kIn_of Y) ?recis_in List.mem_cons_self ?D
  case recis_in => decide +kernel
  case D =>
    intro w
    constructor
    case fis_number => refine' Rw.has_mk ?a ?l ?c ?k; (case a => k_is); (case l => k_is); (case c => k_is); (case k => k_is)
    case fis_house => refine' Rw.has_mk ?a ?l ?c ?k; (case a => k_is); (case l => k_is); (case c => k_is); (case k => k_is)
    case fis_row => refine' Rw.has_mk ?a ?l ?c ?k; (case a => k_is); (case l => k_is); (case c => k_is); (case k => k_is)
    case ffirst_wrong => refine' Rw.has_mk ?a ?l ?c ?k; (case a => k_is); (case l => k_is); (case c => k_is); (case k => k_is)
    case fis_in => refine' Rw.has_mk ?a ?l ?c ?k; (case a => k_is); (case l => k_is); (case c => k_is); (case k => k_is)
    case fchanges_of => refine' Rw.has_mk ?a ?l ?c ?k; (case a => k_is); (case l => k_is); (case c => k_is); (case k => k_is)
    case freaching => refine' Rw.has_mk ?a ?l ?c ?k; (case a => k_is); (case l => k_is); (case c => k_is); (case k => k_is)
    case ffewest => refine' Rw.has_mk ?a ?l ?c ?k; (case a => k_is); (case l => k_is); (case c => k_is); (case k => k_is)
    case fwithout => refine' Rw.has_mk ?a ?l ?c ?k; (case a => k_is); (case l => k_is); (case c => k_is); (case k => k_is)
    case fcheck_rows => refine' Rw.has_mk ?a ?l ?c ?k; (case a => k_is); (case l => k_is); (case c => k_is); (case k => k_is)
    case fname_of => refine' Rw.has_mk ?a ?l ?c ?k; (case a => k_is); (case l => k_is); (case c => k_is); (case k => k_is)
    case fword_of => refine' Rw.has_mk ?a ?l ?c ?k; (case a => k_is); (case l => k_is); (case c => k_is); (case k => k_is)
    case fis_change => refine' Rw.has_mk ?a ?l ?c ?k; (case a => k_is); (case l => k_is); (case c => k_is); (case k => k_is)
    case fis_name => refine' Rw.has_mk ?a ?l ?c ?k; (case a => k_is); (case l => k_is); (case c => k_is); (case k => k_is)
    case fis_sealed => refine' Rw.has_mk ?a ?l ?c ?k; (case a => k_is); (case l => k_is); (case c => k_is); (case k => k_is)
    case fis_what => refine' Rw.has_mk ?a ?l ?c ?k; (case a => k_is); (case l => k_is); (case c => k_is); (case k => k_is)
    case fis_deed => refine' Rw.has_mk ?a ?l ?c ?k; (case a => k_is); (case l => k_is); (case c => k_is); (case k => k_is)
    case fin_order => refine' Rw.has_mk ?a ?l ?c ?k; (case a => k_is); (case l => k_is); (case c => k_is); (case k => k_is)
    case fis_lasting => refine' Rw.has_mk ?a ?l ?c ?k; (case a => k_is); (case l => k_is); (case c => k_is); (case k => k_is)
    case fvoid_in => refine' Rw.has_mk ?a ?l ?c ?k; (case a => k_is); (case l => k_is); (case c => k_is); (case k => k_is)
    case ftaken_in => refine' Rw.has_mk ?a ?l ?c ?k; (case a => k_is); (case l => k_is); (case c => k_is); (case k => k_is)
    case fstanding => refine' Rw.has_mk ?a ?l ?c ?k; (case a => k_is); (case l => k_is); (case c => k_is); (case k => k_is)
    case fworths_behind => refine' Rw.has_mk ?a ?l ?c ?k; (case a => k_is); (case l => k_is); (case c => k_is); (case k => k_is)
    case fno_worths => refine' Rw.has_mk ?a ?l ?c ?k; (case a => k_is); (case l => k_is); (case c => k_is); (case k => k_is)
    case flast_in => refine' Rw.has_mk ?a ?l ?c ?k; (case a => k_is); (case l => k_is); (case c => k_is); (case k => k_is)
    case frows_of => refine' Rw.has_mk ?a ?l ?c ?k; (case a => k_is); (case l => k_is); (case c => k_is); (case k => k_is)
    case fcheck_many => refine' Rw.has_mk ?a ?l ?c ?k; (case a => k_is); (case l => k_is); (case c => k_is); (case k => k_is)
    case fcheck_one_of => refine' Rw.has_mk ?a ?l ?c ?k; (case a => k_is); (case l => k_is); (case c => k_is); (case k => k_is)
    case f_law_dice => refine' Rw.has_mk ?a ?l ?c ?k; (case a => k_is); (case l => k_is); (case c => k_is); (case k => k_is)
    case f_law_next => refine' Rw.has_mk ?a ?l ?c ?k; (case a => k_is); (case l => k_is); (case c => k_is); (case k => k_is)
    case f_law_rows => refine' Rw.has_mk ?a ?l ?c ?k; (case a => k_is); (case l => k_is); (case c => k_is); (case k => k_is)
    case f_law_told_rows => refine' Rw.has_mk ?a ?l ?c ?k; (case a => k_is); (case l => k_is); (case c => k_is); (case k => k_is)
    case f_law_stamp => refine' Rw.has_mk ?a ?l ?c ?k; (case a => k_is); (case l => k_is); (case c => k_is); (case k => k_is)
    case f_law_sorted => refine' Rw.has_mk ?a ?l ?c ?k; (case a => k_is); (case l => k_is); (case c => k_is); (case k => k_is)
    case f_law_has => refine' Rw.has_mk ?a ?l ?c ?k; (case a => k_is); (case l => k_is); (case c => k_is); (case k => k_is)
    case f_law_is_void => refine' Rw.has_mk ?a ?l ?c ?k; (case a => k_is); (case l => k_is); (case c => k_is); (case k => k_is)
    case f_law_marks => refine' Rw.has_mk ?a ?l ?c ?k; (case a => k_is); (case l => k_is); (case c => k_is); (case k => k_is)
    case f_law_alive => refine' Rw.has_mk ?a ?l ?c ?k; (case a => k_is); (case l => k_is); (case c => k_is); (case k => k_is)
    case f_law_worths => refine' Rw.has_mk ?a ?l ?c ?k; (case a => k_is); (case l => k_is); (case c => k_is); (case k => k_is)
    case f_law_real => refine' Rw.has_mk ?a ?l ?c ?k; (case a => k_is); (case l => k_is); (case c => k_is); (case k => k_is)
    case f_law_letters => refine' Rw.has_mk ?a ?l ?c ?k; (case a => k_is); (case l => k_is); (case c => k_is); (case k => k_is)
    case f_law_like => refine' Rw.has_mk ?a ?l ?c ?k; (case a => k_is); (case l => k_is); (case c => k_is); (case k => k_is)
    case fstamp => refine' Rw.has_mk ?a ?l ?c ?k; (case a => k_is); (case l => k_is); (case c => k_is); (case k => k_is)
    case f_law_names => refine' Rw.has_mk ?a ?l ?c ?k; (case a => k_is); (case l => k_is); (case c => k_is); (case k => k_is)
    case f_law_is => refine' Rw.has_mk ?a ?l ?c ?k; (case a => k_is); (case l => k_is); (case c => k_is); (case k => k_is)
    case flaw => refine' Rw.has_mk ?a ?l ?c ?k; (case a => k_is); (case l => k_is); (case c => k_is); (case k => k_is)
    case last => refine' Rw.int_mk ?a; (case a => k_is)
    case most => refine' Rw.int_mk ?a; (case a => k_is)
    case key => refine' Rw.int_mk ?a; (case a => k_is)
    case least => refine' Rw.int_mk ?a; (case a => k_is)
    case mosth => refine' Rw.int_mk ?a; (case a => k_is)
    case tis_in => kernel_rfl
    case zisinstance => k_is
    case zint => k_is
    case zbool => k_is
    case zstr => k_is
    case ztuple => k_is
    case zlist => k_is
    case zlen => k_is
    case zenumerate => k_is
    case zsorted => k_is
    case zrange => k_is
    case zmin => k_is
    case zmax => k_is
    case zany => k_is
    case zreversed => k_is
    case zdict => k_is
    case house =>
      refine' Rw.house_mk ?I
      (case I => constructor; (case aC => k_is); (case pg => k_is); (case hd => k_is); (case po => k_is); (case sa => k_is); (case mks => k_is); (case kc => k_is); (case n_me => k_is); (case n_many => k_is); (case n_time => k_is); (case n_rows => k_is); (case n_kept => k_is); (case n_ends => k_is); (case n_gone => k_is); (case n_base => k_is); (case n_mark => k_is); (case m_now => refine' Rw.meth_mk ?a ?i ?l ?c ?k; (case a => k_is); (case i => k_is); (case l => k_is); (case c => k_is); (case k => k_is)); (case m_done => refine' Rw.meth_mk ?a ?i ?l ?c ?k; (case a => k_is); (case i => k_is); (case l => k_is); (case c => k_is); (case k => k_is)); (case m_deeds => refine' Rw.meth_mk ?a ?i ?l ?c ?k; (case a => k_is); (case i => k_is); (case l => k_is); (case c => k_is); (case k => k_is)); (case m_worths => refine' Rw.meth_mk ?a ?i ?l ?c ?k; (case a => k_is); (case i => k_is); (case l => k_is); (case c => k_is); (case k => k_is)); (case m__meet => refine' Rw.meth_mk ?a ?i ?l ?c ?k; (case a => k_is); (case i => k_is); (case l => k_is); (case c => k_is); (case k => k_is)); (case m_lacks => refine' Rw.meth_mk ?a ?i ?l ?c ?k; (case a => k_is); (case i => k_is); (case l => k_is); (case c => k_is); (case k => k_is)); (case m_gives => refine' Rw.meth_mk ?a ?i ?l ?c ?k; (case a => k_is); (case i => k_is); (case l => k_is); (case c => k_is); (case k => k_is)); (case m__do_next => refine' Rw.meth_mk ?a ?i ?l ?c ?k; (case a => k_is); (case i => k_is); (case l => k_is); (case c => k_is); (case k => k_is)); (case m_do => refine' Rw.meth_mk ?a ?i ?l ?c ?k; (case a => k_is); (case i => k_is); (case l => k_is); (case c => k_is); (case k => k_is)); (case m_take => refine' Rw.meth_mk ?a ?i ?l ?c ?k; (case a => k_is); (case i => k_is); (case l => k_is); (case c => k_is); (case k => k_is)); (case m_init => refine' Rw.meth_mk ?a ?i ?l ?c ?k; (case a => k_is); (case i => k_is); (case l => k_is); (case c => k_is); (case k => k_is)))
    case cut => refine' Rw.cut_mk ?a ?l; (case a => k_is); (case l => k_is)
#print axioms PySem.Challenge.cw_doneranges_k31_brought_up_by_pieces_holds
