import PyProof.Rows.All
import Wide.All
import OpenK.AllK
import Wide.FinOn
import HandS.ForMost
import HandS.EndBits
import HandS.Walk
import HandS.Wide
import HandS.IsInst
import HandS.Conv
import HandS.SortRule
import HandS.TupSets
import KE.KDictSum
import HandS.Exc
import HandS.ExcOwn
import HandS.ExcInit
import HandS.ExcField
import HandS.ClsMeth
import HandS.Deep
import HandS.FStr
import KE.KExcIs
import HandS.Lambda
import KE.KDflt
import HandS.WordsExc
import KE.KDictWalk
import KE.KDictCopyH
import HandS.EndTab
import KE.KNest
import KE.KNestM
import PySem.Challenge.RW_doneranges_k22_leads
set_option Elab.async false
set_option linter.all false
set_option maxRecDepth 100000
set_option autoImplicit false
namespace Rw
/-! rows (house, first, last), points (house, number), by the order of pairs -/
abbrev Row := Int × Int × Int
abbrev Pt := Int × Int
def lt2 (p q : Pt) : Prop := p.1 < q.1 ∨ (p.1 = q.1 ∧ p.2 < q.2)
def le2 (p q : Pt) : Prop := p.1 < q.1 ∨ (p.1 = q.1 ∧ p.2 ≤ q.2)
instance (p q : Pt) : Decidable (lt2 p q) := by unfold lt2; infer_instance
instance (p q : Pt) : Decidable (le2 p q) := by unfold le2; infer_instance
def inRow (r : Row) (p : Pt) : Prop := r.1 = p.1 ∧ r.2.1 ≤ p.2 ∧ p.2 ≤ r.2.2
instance (r : Row) (p : Pt) : Decidable (inRow r p) := by unfold inRow; infer_instance
def mem (rs : List Row) (p : Pt) : Prop := ∃ r ∈ rs, inRow r p
def before (r s : Row) : Prop := r.1 < s.1 ∨ (r.1 = s.1 ∧ r.2.2 + 1 < s.2.1)
structure Canon (rs : List Row) : Prop where
  ok : ∀ r ∈ rs, r.2.1 ≤ r.2.2
  ord : rs.Pairwise before
theorem Canon.nil : Canon [] := ⟨fun _ h => absurd h (by simp), .nil⟩
theorem Canon.tail {r : Row} {rs : List Row} (c : Canon (r :: rs)) : Canon rs :=
  ⟨fun s h => c.ok s (List.mem_cons_of_mem _ h), (List.pairwise_cons.mp c.ord).2⟩
theorem mem_cons {r : Row} {rs : List Row} {p : Pt} : mem (r :: rs) p ↔ inRow r p ∨ mem rs p := by
  unfold mem; simp
theorem mem_nil {p : Pt} : ¬ mem [] p := by unfold mem; simp
theorem mem_append {as bs : List Row} {p : Pt} : mem (as ++ bs) p ↔ mem as p ∨ mem bs p := by
  unfold mem
  constructor
  · rintro ⟨r, h, e⟩
    rcases List.mem_append.mp h with h | h
    · exact .inl ⟨r, h, e⟩
    · exact .inr ⟨r, h, e⟩
  · rintro (⟨r, h, e⟩ | ⟨r, h, e⟩)
    · exact ⟨r, List.mem_append_left _ h, e⟩
    · exact ⟨r, List.mem_append_right _ h, e⟩
/-- whatever is in a later row lies behind the first one, with a gap -/
theorem Canon.later {r : Row} {rs : List Row} (c : Canon (r :: rs)) {p : Pt} (h : mem rs p) : r.1 < p.1 ∨ (r.1 = p.1 ∧ r.2.2 + 1 < p.2) := by
  obtain ⟨s, hs, e1, e2, e3⟩ := h
  have b := (List.pairwise_cons.mp c.ord).1 s hs
  unfold before at b
  omega
theorem Canon.uniq : ∀ {xs ys : List Row}, Canon xs → Canon ys → (∀ p, mem xs p ↔ mem ys p) → xs = ys
  | [], [], _, _, _ => rfl
  | [], y :: ys, _, cy, h => by
    have o := cy.ok y List.mem_cons_self
    exact absurd ((h (y.1, y.2.1)).mpr (mem_cons.mpr (.inl ⟨rfl, Int.le_refl _, o⟩))) mem_nil
  | x :: xs, [], cx, _, h => by
    have o := cx.ok x List.mem_cons_self
    exact absurd ((h (x.1, x.2.1)).mp (mem_cons.mpr (.inl ⟨rfl, Int.le_refl _, o⟩))) mem_nil
  | x :: xs, y :: ys, cx, cy, h => by
    have ox := cx.ok x List.mem_cons_self
    have oy := cy.ok y List.mem_cons_self
    have a1 := mem_cons.mp ((h (x.1, x.2.1)).mp (mem_cons.mpr (.inl ⟨rfl, Int.le_refl _, ox⟩)))
    have a2 := mem_cons.mp ((h (y.1, y.2.1)).mpr (mem_cons.mpr (.inl ⟨rfl, Int.le_refl _, oy⟩)))
    have b1 : le2 (y.1, y.2.1) (x.1, x.2.1) := by
      unfold le2
      rcases a1 with ⟨e1, e2, e3⟩ | a1
      · simp only at e1 e2 e3 ⊢; omega
      · have z := cy.later a1; simp only at z ⊢; omega
    have b2 : le2 (x.1, x.2.1) (y.1, y.2.1) := by
      unfold le2
      rcases a2 with ⟨e1, e2, e3⟩ | a2
      · simp only at e1 e2 e3 ⊢; omega
      · have z := cx.later a2; simp only at z ⊢; omega
    unfold le2 at b1 b2
    simp only at b1 b2
    have eh : x.1 = y.1 := by omega
    have ea : x.2.1 = y.2.1 := by omega
    have c1 := mem_cons.mp ((h (x.1, x.2.2)).mp (mem_cons.mpr (.inl ⟨rfl, ox, Int.le_refl _⟩)))
    have c2 := mem_cons.mp ((h (y.1, y.2.2)).mpr (mem_cons.mpr (.inl ⟨rfl, oy, Int.le_refl _⟩)))
    have eb : x.2.2 = y.2.2 := by
      rcases Int.lt_trichotomy x.2.2 y.2.2 with z | z | z
      · -- (x.1, x.2.2 + 1) is in y, so in x's tail
        have d := mem_cons.mp ((h (x.1, x.2.2 + 1)).mpr (mem_cons.mpr (.inl ⟨eh.symm, by simp only; omega, by simp only; omega⟩)))
        rcases d with ⟨_, _, e3⟩ | d
        · simp only at e3; omega
        · have u := cx.later d; simp only at u; omega
      · exact z
      · have d := mem_cons.mp ((h (y.1, y.2.2 + 1)).mp (mem_cons.mpr (.inl ⟨eh, by simp only; omega, by simp only; omega⟩)))
        rcases d with ⟨_, _, e3⟩ | d
        · simp only at e3; omega
        · have u := cy.later d; simp only at u; omega
    have exy : x = y := by
      obtain ⟨x1, x2, x3⟩ := x
      obtain ⟨y1, y2, y3⟩ := y
      simp only at eh ea eb
      subst eh ea eb
      rfl
    subst exy
    congr 1
    refine Canon.uniq cx.tail cy.tail fun p => ?_
    constructor
    · intro m
      rcases mem_cons.mp ((h p).mp (mem_cons.mpr (.inr m))) with ⟨e1, e2, e3⟩ | d
      · have u := cx.later m; omega
      · exact d
    · intro m
      rcases mem_cons.mp ((h p).mpr (mem_cons.mpr (.inr m))) with ⟨e1, e2, e3⟩ | d
      · have u := cy.later m; omega
      · exact d
theorem Canon.snoc {rs : List Row} {r : Row} (c : Canon rs) (o : r.2.1 ≤ r.2.2) (h : ∀ s ∈ rs, before s r) : Canon (rs ++ [r]) := by
  refine ⟨fun s hs => ?_, List.pairwise_append.mpr ⟨c.ord, List.pairwise_singleton _ _, fun s hs t ht => ?_⟩⟩
  · rcases List.mem_append.mp hs with hs | hs
    · exact c.ok s hs
    · rw [List.mem_singleton.mp hs]; exact o
  · rw [List.mem_singleton.mp ht]; exact h s hs

/-! ### sums over weighted rows -/
abbrev WRow := Row × Int
def S (f : Row → Int) : List WRow → Int
  | [] => 0
  | (r, w) :: ws => w * f r + S f ws
theorem S_append (f : Row → Int) : ∀ (as bs : List WRow), S f (as ++ bs) = S f as + S f bs
  | [], bs => by simp [S]
  | (r, w) :: as, bs => by
    show w * f r + S f (as ++ bs) = w * f r + S f as + S f bs
    rw [S_append f as bs]; omega
theorem S_congr {f g : Row → Int} : ∀ {ws : List WRow}, (∀ x ∈ ws, f x.1 = g x.1) → S f ws = S g ws
  | [], _ => rfl
  | (r, w) :: ws, h => by
    show w * f r + S f ws = w * g r + S g ws
    rw [h (r, w) List.mem_cons_self, S_congr (ws := ws) fun x hx => h x (List.mem_cons_of_mem _ hx)]
theorem S_add (f g : Row → Int) : ∀ ws : List WRow, S (fun r => f r + g r) ws = S f ws + S g ws
  | [] => rfl
  | (r, w) :: ws => by
    show w * (f r + g r) + S (fun r => f r + g r) ws = (w * f r + S f ws) + (w * g r + S g ws)
    rw [S_add f g ws, Int.mul_add]; omega
theorem S_zero {f : Row → Int} : ∀ {ws : List WRow}, (∀ x ∈ ws, f x.1 = 0) → S f ws = 0
  | [], _ => rfl
  | (r, w) :: ws, h => by
    show w * f r + S f ws = 0
    rw [h (r, w) List.mem_cons_self, S_zero (ws := ws) fun x hx => h x (List.mem_cons_of_mem _ hx)]; omega
def ind (c : Prop) [Decidable c] : Int := if c then 1 else 0
theorem ind_pos {c : Prop} [Decidable c] (h : c) : ind c = 1 := if_pos h
theorem ind_neg {c : Prop} [Decidable c] (h : ¬ c) : ind c = 0 := if_neg h
theorem ind_or (c : Prop) [Decidable c] : (c ∧ ind c = 1) ∨ (¬ c ∧ ind c = 0) := by
  by_cases h : c
  · exact .inl ⟨h, ind_pos h⟩
  · exact .inr ⟨h, ind_neg h⟩
def fstP (r : Row) : Pt := (r.1, r.2.1)
def endP (r : Row) : Pt := (r.1, r.2.2 + 1)
/-- what weighs on a point -/
def cover (ws : List WRow) (p : Pt) : Int := S (fun r => ind (inRow r p)) ws
/-- the change at a point -/
def chg (ws : List WRow) (p : Pt) : Int := S (fun r => ind (fstP r = p) - ind (endP r = p)) ws
def Wok (ws : List WRow) : Prop := ∀ x ∈ ws, x.1.2.1 ≤ x.1.2.2
theorem cover_eq {ws : List WRow} (h : Wok ws) (p : Pt) : cover ws p = S (fun r => ind (le2 (fstP r) p) - ind (le2 (endP r) p)) ws := by
  refine S_congr fun x hx => ?_
  have o := h x hx
  obtain ⟨⟨rh, ra, rb⟩, w⟩ := x
  obtain ⟨ph, pn⟩ := p
  rcases ind_or (inRow (rh, ra, rb) (ph, pn)) with ⟨a, ea⟩ | ⟨a, ea⟩ <;> rcases ind_or (le2 (fstP (rh, ra, rb)) (ph, pn)) with ⟨b, eb⟩ | ⟨b, eb⟩ <;>
    rcases ind_or (le2 (endP (rh, ra, rb)) (ph, pn)) with ⟨c, ec⟩ | ⟨c, ec⟩ <;> rw [ea, eb, ec] <;> simp only [inRow, le2, fstP, endP] at a b c o <;> omega
/-- all points of change are among ks -/
def Has (ks : List Pt) (ws : List WRow) : Prop := ∀ x ∈ ws, fstP x.1 ∈ ks ∧ endP x.1 ∈ ks
/-- from a point to the next one of change -/
theorem cover_step {ws : List WRow} (o : Wok ws) {c k : Pt} (hlt : lt2 c k) (hn : ∀ x ∈ ws, (le2 (fstP x.1) c ∨ le2 k (fstP x.1)) ∧ (le2 (endP x.1) c ∨ le2 k (endP x.1))) :
    cover ws k = cover ws c + chg ws k := by
  rw [cover_eq o, cover_eq o, chg, ← S_add]
  refine S_congr fun x hx => ?_
  obtain ⟨a, b⟩ := hn x hx
  obtain ⟨⟨rh, ra, rb⟩, w⟩ := x
  obtain ⟨kh, kn⟩ := k
  obtain ⟨ch, cn⟩ := c
  simp only [lt2, le2, fstP, endP] at a b hlt
  rcases ind_or (le2 (fstP (rh, ra, rb)) (kh, kn)) with ⟨u1, e1⟩ | ⟨u1, e1⟩ <;> rcases ind_or (le2 (endP (rh, ra, rb)) (kh, kn)) with ⟨u2, e2⟩ | ⟨u2, e2⟩ <;>
    rcases ind_or (le2 (fstP (rh, ra, rb)) (ch, cn)) with ⟨u3, e3⟩ | ⟨u3, e3⟩ <;> rcases ind_or (le2 (endP (rh, ra, rb)) (ch, cn)) with ⟨u4, e4⟩ | ⟨u4, e4⟩ <;>
    rcases ind_or (fstP (rh, ra, rb) = (kh, kn)) with ⟨u5, e5⟩ | ⟨u5, e5⟩ <;> rcases ind_or (endP (rh, ra, rb) = (kh, kn)) with ⟨u6, e6⟩ | ⟨u6, e6⟩ <;>
    rw [e1, e2, e3, e4, e5, e6] <;> simp only [le2, fstP, endP, Prod.mk.injEq] at u1 u2 u3 u4 u5 u6 <;> omega
theorem cover_same {ws : List WRow} (o : Wok ws) {c p : Pt} (hle : le2 c p) (hn : ∀ x ∈ ws, (le2 (fstP x.1) c ∨ lt2 p (fstP x.1)) ∧ (le2 (endP x.1) c ∨ lt2 p (endP x.1))) :
    cover ws p = cover ws c := by
  rw [cover_eq o, cover_eq o]
  refine S_congr fun x hx => ?_
  obtain ⟨a, b⟩ := hn x hx
  obtain ⟨⟨rh, ra, rb⟩, w⟩ := x
  obtain ⟨kh, kn⟩ := p
  obtain ⟨ch, cn⟩ := c
  simp only [lt2, le2, fstP, endP] at a b hle
  rcases ind_or (le2 (fstP (rh, ra, rb)) (kh, kn)) with ⟨u1, e1⟩ | ⟨u1, e1⟩ <;> rcases ind_or (le2 (endP (rh, ra, rb)) (kh, kn)) with ⟨u2, e2⟩ | ⟨u2, e2⟩ <;>
    rcases ind_or (le2 (fstP (rh, ra, rb)) (ch, cn)) with ⟨u3, e3⟩ | ⟨u3, e3⟩ <;> rcases ind_or (le2 (endP (rh, ra, rb)) (ch, cn)) with ⟨u4, e4⟩ | ⟨u4, e4⟩ <;>
    rw [e1, e2, e3, e4] <;> simp only [le2, fstP, endP] at u1 u2 u3 u4 <;> omega
theorem cover_first {ws : List WRow} (o : Wok ws) {k : Pt} (hn : ∀ x ∈ ws, le2 k (fstP x.1) ∧ le2 k (endP x.1)) : cover ws k = chg ws k := by
  rw [cover_eq o, chg]
  refine S_congr fun x hx => ?_
  obtain ⟨a, b⟩ := hn x hx
  obtain ⟨⟨rh, ra, rb⟩, w⟩ := x
  obtain ⟨kh, kn⟩ := k
  simp only [le2, fstP, endP] at a b
  rcases ind_or (le2 (fstP (rh, ra, rb)) (kh, kn)) with ⟨u1, e1⟩ | ⟨u1, e1⟩ <;> rcases ind_or (le2 (endP (rh, ra, rb)) (kh, kn)) with ⟨u2, e2⟩ | ⟨u2, e2⟩ <;>
    rcases ind_or (fstP (rh, ra, rb) = (kh, kn)) with ⟨u5, e5⟩ | ⟨u5, e5⟩ <;> rcases ind_or (endP (rh, ra, rb) = (kh, kn)) with ⟨u6, e6⟩ | ⟨u6, e6⟩ <;>
    rw [e1, e2, e5, e6] <;> simp only [le2, fstP, endP, Prod.mk.injEq] at u1 u2 u5 u6 <;> omega
theorem cover_none {ws : List WRow} {p : Pt} (hn : ∀ x ∈ ws, ¬ inRow x.1 p) : cover ws p = 0 := S_zero fun x hx => ind_neg (hn x hx)
/-- something covers: its end lies behind, in the same house -/
theorem cover_pos {ws : List WRow} {p : Pt} (h : cover ws p ≠ 0) : ∃ x ∈ ws, inRow x.1 p := by
  by_cases e : ∃ x ∈ ws, inRow x.1 p
  · exact e
  · exact absurd (cover_none fun x hx q => e ⟨x, hx, q⟩) h

/-! ### the sweep -/
structure St where
  out : List Row
  total : Int
  start : Int
def stepM (ch : Pt → Int) (least : Int) (s : St) (k : Pt) : St :=
  if s.total < least ∧ least ≤ s.total + ch k then ⟨s.out, s.total + ch k, k.2⟩
  else if s.total + ch k < least ∧ least ≤ s.total then ⟨s.out ++ [(k.1, s.start, k.2 - 1)], s.total + ch k, s.start⟩
  else ⟨s.out, s.total + ch k, s.start⟩
/-- behind the point c of change: what is out, and what is open -/
structure At (ws : List WRow) (least : Int) (c : Pt) (s : St) : Prop where
  tot : s.total = cover ws c
  can : Canon s.out
  cl : s.total < least → (∀ r ∈ s.out, le2 (endP r) c) ∧ ∀ p, le2 p c → (mem s.out p ↔ least ≤ cover ws p)
  op : least ≤ s.total → s.start ≤ c.2 ∧ (∀ r ∈ s.out, lt2 (endP r) (c.1, s.start)) ∧ (∀ n, s.start ≤ n → n ≤ c.2 → least ≤ cover ws (c.1, n)) ∧
    ∀ p, lt2 p (c.1, s.start) → (mem s.out p ↔ least ≤ cover ws p)
theorem not_mem_of_end {rs : List Row} {c p : Pt} (h : ∀ r ∈ rs, le2 (endP r) c) (hp : le2 c p) : ¬ mem rs p := by
  rintro ⟨r, hr, e1, e2, e3⟩
  have a := h r hr
  unfold le2 endP at a
  unfold le2 at hp
  simp only at a
  omega
theorem At.step {ws : List WRow} {least : Int} (hl : 0 < least) (o : Wok ws) {c k : Pt} {s : St} (a : At ws least c s) (hlt : lt2 c k)
    (hn : ∀ x ∈ ws, (le2 (fstP x.1) c ∨ le2 k (fstP x.1)) ∧ (le2 (endP x.1) c ∨ le2 k (endP x.1))) : At ws least k (stepM (chg ws) least s k) := by
  have tk : s.total + chg ws k = cover ws k := by rw [a.tot, cover_step o hlt hn]
  have same : ∀ p, le2 c p → lt2 p k → cover ws p = cover ws c := fun p h1 h2 => by
    refine cover_same o h1 fun x hx => ?_
    obtain ⟨u, v⟩ := hn x hx
    unfold lt2 le2 at *
    exact ⟨by omega, by omega⟩
  unfold stepM
  rw [tk]
  by_cases h1 : s.total < least
  · obtain ⟨c1, c2⟩ := a.cl h1
    have hm : ∀ p, lt2 p k → (mem s.out p ↔ least ≤ cover ws p) := fun p hp => by
      by_cases hc : le2 p c
      · exact c2 p hc
      · have hc' : le2 c p := by unfold le2 at *; omega
        have nm := not_mem_of_end c1 hc'
        have e := same p hc' hp
        rw [e, ← a.tot]
        exact ⟨fun z => absurd z nm, fun z => absurd h1 (by omega)⟩
    by_cases h2 : least ≤ cover ws k
    · rw [if_pos ⟨h1, h2⟩]
      refine ⟨rfl, a.can, fun z => absurd z (by simp only; omega), fun _ => ⟨Int.le_refl _, fun r hr => ?_, fun n z1 z2 => ?_, fun p hp => hm p hp⟩⟩
      · have q := c1 r hr
        unfold le2 lt2 at *
        simp only at *
        omega
      · have : n = k.2 := by simp only at z1 z2; omega
        rw [this]; exact h2
    · rw [if_neg (fun z => h2 z.2), if_neg (fun z => absurd z.2 (by omega))]
      refine ⟨rfl, a.can, fun _ => ⟨fun r hr => ?_, fun p hp => ?_⟩, fun z => absurd z (by simp only; omega)⟩
      · have q := c1 r hr
        unfold le2 lt2 at *
        omega
      · by_cases hpk : lt2 p k
        · exact hm p hpk
        · have e : p = k := by
            obtain ⟨p1, p2⟩ := p
            obtain ⟨k1, k2⟩ := k
            unfold le2 at hp
            unfold lt2 at hpk
            simp only at hp hpk
            have e1 : p1 = k1 := by omega
            have e2 : p2 = k2 := by omega
            rw [e1, e2]
          subst e
          have hck : le2 c p := by unfold lt2 at hlt; unfold le2; omega
          exact ⟨fun z => absurd z (not_mem_of_end c1 hck), fun z => absurd z h2⟩
  · have h1' : least ≤ s.total := by omega
    obtain ⟨o1, o2, o3, o4⟩ := a.op h1'
    rw [if_neg (fun z => h1 z.1)]
    -- a row that covers c ends behind c in its house: k lies in the same house
    have hk1 : k.1 = c.1 := by
      obtain ⟨x, hx, i1, i2, i3⟩ := cover_pos (ws := ws) (p := c) (by rw [← a.tot]; omega)
      obtain ⟨_, v⟩ := hn x hx
      unfold le2 endP at v
      unfold lt2 at hlt
      simp only at v
      omega
    have hk2 : c.2 < k.2 := by unfold lt2 at hlt; omega
    have seg : ∀ n, s.start ≤ n → n < k.2 → least ≤ cover ws (c.1, n) := fun n z1 z2 => by
      by_cases hc : n ≤ c.2
      · exact o3 n z1 hc
      · rw [same (c.1, n) (.inr ⟨rfl, by simp only; omega⟩) (.inr ⟨hk1.symm, z2⟩), ← a.tot]
        exact h1'
    by_cases h2 : cover ws k < least
    · rw [if_pos ⟨h2, h1'⟩]
      refine ⟨rfl, a.can.snoc (by simp only; omega) fun r hr => ?_, fun _ => ⟨fun r hr => ?_, fun p hp => ?_⟩, fun z => absurd z (show ¬ least ≤ cover ws k by omega)⟩
      · have q := o2 r hr
        unfold lt2 endP at q
        unfold before
        simp only at q ⊢
        omega
      · rcases List.mem_append.mp hr with hr | hr
        · have q := o2 r hr
          unfold lt2 at q
          unfold le2
          simp only at q ⊢
          omega
        · rw [List.mem_singleton.mp hr]
          exact .inr ⟨rfl, show k.2 - 1 + 1 ≤ k.2 by omega⟩
      · rw [mem_append]
        by_cases hb : lt2 p (c.1, s.start)
        · rw [← o4 p hb]
          constructor
          · rintro (z | ⟨r, hr, i1, i2, i3⟩)
            · exact z
            · rw [List.mem_singleton.mp hr] at i1 i2 i3
              unfold lt2 at hb
              simp only at i1 i2 i3 hb
              omega
          · exact .inl
        · by_cases hpk : lt2 p k
          · have e : p.1 = c.1 := by
              unfold lt2 at hb hpk
              simp only at hb
              omega
            have z1 : s.start ≤ p.2 := by
              unfold lt2 at hb
              simp only at hb
              omega
            have z2 : p.2 < k.2 := by
              unfold lt2 at hpk
              omega
            have q := seg p.2 z1 z2
            rw [← e] at q
            refine ⟨fun _ => q, fun _ => .inr ⟨_, List.mem_singleton.mpr rfl, ?_, ?_, ?_⟩⟩
            · simp only; omega
            · exact z1
            · simp only; omega
          · have e : p = k := by
              obtain ⟨p1, p2⟩ := p
              obtain ⟨k1, k2⟩ := k
              unfold le2 at hp
              unfold lt2 at hpk
              simp only at hp hpk
              have e1 : p1 = k1 := by omega
              have e2 : p2 = k2 := by omega
              rw [e1, e2]
            subst e
            refine ⟨fun z => ?_, fun z => absurd z (by omega)⟩
            exfalso
            rcases z with ⟨r, hr, i1, i2, i3⟩ | ⟨r, hr, i1, i2, i3⟩
            · have q := o2 r hr
              unfold lt2 endP at q
              simp only at q
              omega
            · rw [List.mem_singleton.mp hr] at i1 i2 i3
              simp only at i1 i2 i3
              omega
    · rw [if_neg (fun z => h2 z.1)]
      refine ⟨rfl, a.can, fun z => absurd z (by simp only; omega), fun _ => ⟨by simp only; omega, ?_, fun n z1 z2 => ?_, ?_⟩⟩
      · rw [hk1]; exact o2
      · rw [hk1]
        by_cases hn2 : n < k.2
        · exact seg n z1 hn2
        · have : n = k.2 := by omega
          rw [this, ← hk1]
          show least ≤ cover ws k
          omega
      · rw [hk1]; exact o4
/-- the first point -/
theorem At.start {ws : List WRow} {least : Int} (hl : 0 < least) (o : Wok ws) {k : Pt} (z : Int) (hn : ∀ x ∈ ws, le2 k (fstP x.1) ∧ le2 k (endP x.1)) :
    At ws least k (stepM (chg ws) least ⟨[], 0, z⟩ k) := by
  have tk : (0 : Int) + chg ws k = cover ws k := by rw [cover_first o hn]; omega
  have zero : ∀ p, lt2 p k → cover ws p = 0 := fun p hp => cover_none fun x hx ⟨i1, i2, i3⟩ => by
    obtain ⟨u, _⟩ := hn x hx
    unfold le2 fstP at u
    unfold lt2 at hp
    simp only at u
    omega
  unfold stepM
  simp only
  rw [tk]
  by_cases h2 : least ≤ cover ws k
  · rw [if_pos ⟨hl, h2⟩]
    refine ⟨rfl, .nil, fun z => absurd z (by simp only; omega), fun _ => ⟨Int.le_refl _, fun r hr => absurd hr (by simp), fun n z1 z2 => ?_, fun p hp => ?_⟩⟩
    · have : n = k.2 := by simp only at z1 z2; omega
      rw [this]; exact h2
    · rw [zero p hp]
      exact ⟨fun z => absurd z mem_nil, fun z => absurd z (by omega)⟩
  · rw [if_neg (fun z => h2 z.2), if_neg (fun z => absurd z.2 (by omega))]
    refine ⟨rfl, .nil, fun _ => ⟨fun r hr => absurd hr (by simp), fun p hp => ?_⟩, fun z => absurd z (by simp only; omega)⟩
    by_cases hpk : lt2 p k
    · rw [zero p hpk]
      exact ⟨fun z => absurd z mem_nil, fun z => absurd z (by omega)⟩
    · have e : p = k := by
        obtain ⟨p1, p2⟩ := p
        obtain ⟨k1, k2⟩ := k
        unfold le2 at hp
        unfold lt2 at hpk
        simp only at hp hpk
        have e1 : p1 = k1 := by omega
        have e2 : p2 = k2 := by omega
        rw [e1, e2]
      subst e
      exact ⟨fun z => absurd z mem_nil, fun z => absurd z h2⟩
theorem le2_of_not {p q : Pt} (h : ¬ lt2 p q) : le2 q p := by unfold lt2 at h; unfold le2; omega
theorem At.done {ws : List WRow} {least : Int} (hl : 0 < least) (o : Wok ws) {c : Pt} {s : St} (a : At ws least c s) (hn : ∀ x ∈ ws, le2 (fstP x.1) c ∧ le2 (endP x.1) c) :
    Canon s.out ∧ ∀ p, mem s.out p ↔ least ≤ cover ws p := by
  have far : ∀ p, le2 c p → cover ws p = 0 := fun p hp => cover_none fun x hx ⟨i1, i2, i3⟩ => by
    obtain ⟨_, v⟩ := hn x hx
    unfold le2 endP at v
    unfold le2 at hp
    simp only at v
    omega
  have ht : s.total < least := by
    rw [a.tot, far c (by unfold le2; omega)]; exact hl
  obtain ⟨c1, c2⟩ := a.cl ht
  refine ⟨a.can, fun p => ?_⟩
  by_cases hp : le2 p c
  · exact c2 p hp
  · have hp' : le2 c p := by unfold le2 at *; omega
    rw [far p hp']
    exact ⟨fun z => absurd z (not_mem_of_end c1 hp'), fun z => absurd z (by omega)⟩
theorem sweep_from {ws : List WRow} {least : Int} (hl : 0 < least) (o : Wok ws) : ∀ (ks : List Pt) (c : Pt) (s : St), At ws least c s → (c :: ks).Pairwise lt2 →
    (∀ x ∈ ws, (le2 (fstP x.1) c ∨ fstP x.1 ∈ ks) ∧ (le2 (endP x.1) c ∨ endP x.1 ∈ ks)) →
    Canon (ks.foldl (stepM (chg ws) least) s).out ∧ ∀ p, mem (ks.foldl (stepM (chg ws) least) s).out p ↔ least ≤ cover ws p
  | [], c, s, a, _, h => a.done hl o fun x hx => by
    obtain ⟨u, v⟩ := h x hx
    exact ⟨u.resolve_right (by simp), v.resolve_right (by simp)⟩
  | k :: ks, c, s, a, hp, h => by
    have h1 := (List.pairwise_cons.mp hp).1 k List.mem_cons_self
    have h2 := (List.pairwise_cons.mp hp).2
    have h3 := (List.pairwise_cons.mp h2).1
    have key : ∀ q : Pt, (le2 q c ∨ q ∈ k :: ks) → (le2 q c ∨ le2 k q) := fun q z => by
      rcases z with z | z
      · exact .inl z
      · rcases List.mem_cons.mp z with e | z
        · subst e; exact .inr (by unfold le2; omega)
        · have w := h3 q z
          exact .inr (by unfold lt2 at w; unfold le2; omega)
    refine sweep_from hl o ks k _ (a.step hl o h1 fun x hx => ⟨key _ (h x hx).1, key _ (h x hx).2⟩) h2 fun x hx => ?_
    have key2 : ∀ q : Pt, (le2 q c ∨ q ∈ k :: ks) → (le2 q k ∨ q ∈ ks) := fun q z => by
      rcases z with z | z
      · exact .inl (by unfold lt2 at h1; unfold le2 at *; omega)
      · rcases List.mem_cons.mp z with e | z
        · subst e; exact .inl (by unfold le2; omega)
        · exact .inr z
    exact ⟨key2 _ (h x hx).1, key2 _ (h x hx).2⟩
/-- THE SWEEP: the fewest rows of what weighs least or more -/
theorem sweep {ws : List WRow} {least : Int} (hl : 0 < least) (o : Wok ws) {ks : List Pt} (hp : ks.Pairwise lt2) (h : Has ks ws) (z : Int) :
    Canon (ks.foldl (stepM (chg ws) least) ⟨[], 0, z⟩).out ∧ ∀ p, mem (ks.foldl (stepM (chg ws) least) ⟨[], 0, z⟩).out p ↔ least ≤ cover ws p := by
  cases ks with
  | nil =>
    have e : ws = [] := by
      cases ws with
      | nil => rfl
      | cons x xs => exact absurd (h x List.mem_cons_self).1 (by simp)
    subst e
    refine ⟨.nil, fun p => ⟨fun z => absurd z mem_nil, fun z => absurd z ?_⟩⟩
    show ¬ least ≤ 0
    omega
  | cons k ks =>
    have h3 := (List.pairwise_cons.mp hp).1
    have key : ∀ q : Pt, q ∈ k :: ks → le2 k q := fun q z => by
      rcases List.mem_cons.mp z with e | z
      · subst e; unfold le2; omega
      · have w := h3 q z
        unfold lt2 at w; unfold le2; omega
    refine sweep_from hl o ks k _ (At.start hl o z fun x hx => ⟨key _ (h x hx).1, key _ (h x hx).2⟩) hp fun x hx => ?_
    have key2 : ∀ q : Pt, q ∈ k :: ks → (le2 q k ∨ q ∈ ks) := fun q z => by
      rcases List.mem_cons.mp z with e | z
      · subst e; exact .inl (by unfold le2; omega)
      · exact .inr z
    exact ⟨key2 _ (h x hx).1, key2 _ (h x hx).2⟩
end Rw
namespace Rw
open PySem L2
/-! ### kinds of data that never change -/
structure Kd (α : Type) where
  is : Hp → V → α → Prop
  mono : ∀ {F F' : Hp} {v : V} {x : α}, Same F F' → is F v x → is F' v x
def kInt : Kd Int := ⟨fun _ v x => v = .int x, fun _ h => h⟩
def kRow : Kd Row := ⟨fun F v r => ∃ t, v = .ref t ∧ F t = some (.tup [.int r.1, .int r.2.1, .int r.2.2]), fun s ⟨t, e, h⟩ => ⟨t, e, s _ _ h⟩⟩
def kPt : Kd Pt := ⟨fun F v p => ∃ t, v = .ref t ∧ F t = some (.tup [.int p.1, .int p.2]), fun s ⟨t, e, h⟩ => ⟨t, e, s _ _ h⟩⟩
def kW : Kd WRow := ⟨fun F v x => ∃ t u, v = .ref t ∧ F t = some (.tup [u, .int x.2]) ∧ kRow.is F u x.1, fun s ⟨t, u, e, h, k⟩ => ⟨t, u, e, s _ _ h, kRow.mono s k⟩⟩
theorem pr_mono {α : Type} {R S : V → α → Prop} (h : ∀ v x, R v x → S v x) : ∀ {vs : List V} {xs : List α}, Paired R vs xs → Paired S vs xs
  | _, _, .nil => .nil
  | _, _, .cons r t => .cons (h _ _ r) (pr_mono h t)
theorem pr_len {α : Type} {R : V → α → Prop} : ∀ {vs : List V} {xs : List α}, Paired R vs xs → vs.length = xs.length
  | _, _, .nil => rfl
  | _, _, .cons _ t => by rw [List.length_cons, List.length_cons, pr_len t]
theorem pr_get {α : Type} {R : V → α → Prop} : ∀ {vs : List V} {xs : List α} {i : Nat} {v : V}, Paired R vs xs → vs[i]? = some v → ∃ x, xs[i]? = some x ∧ R v x
  | _, _, _, _, .nil, e => by simp at e
  | _, _, 0, _, .cons r _, e => by simp at e; subst e; exact ⟨_, rfl, r⟩
  | _, _, i + 1, v, .cons _ t, e => by
    obtain ⟨x, h1, h2⟩ := pr_get (i := i) (v := v) t (by simpa using e)
    exact ⟨x, by simpa using h1, h2⟩
theorem pr_get' {α : Type} {R : V → α → Prop} : ∀ {vs : List V} {xs : List α} {i : Nat} {x : α}, Paired R vs xs → xs[i]? = some x → ∃ v, vs[i]? = some v ∧ R v x
  | _, _, _, _, .nil, e => by simp at e
  | _, _, 0, _, .cons r _, e => by simp at e; subst e; exact ⟨_, rfl, r⟩
  | _, _, i + 1, v, .cons _ t, e => by
    obtain ⟨x, h1, h2⟩ := pr_get' (i := i) t (by simpa using e)
    exact ⟨x, by simpa using h1, h2⟩
theorem pr_append {α : Type} {R : V → α → Prop} : ∀ {vs us : List V} {xs ys : List α}, Paired R vs xs → Paired R us ys → Paired R (vs ++ us) (xs ++ ys)
  | _, _, _, _, .nil, s => s
  | _, _, _, _, .cons r t, s => .cons r (pr_append t s)
theorem pr_snoc {α : Type} {R : V → α → Prop} {vs : List V} {xs : List α} {v : V} {x : α} (h : Paired R vs xs) (r : R v x) : Paired R (vs ++ [v]) (xs ++ [x]) := pr_append h (.cons r .nil)
theorem pr_take {α : Type} {R : V → α → Prop} : ∀ {vs : List V} {xs : List α} (n : Nat), Paired R vs xs → Paired R (vs.take n) (xs.take n)
  | _, _, 0, _ => .nil
  | _, _, _ + 1, .nil => .nil
  | _, _, n + 1, .cons r t => .cons r (pr_take n t)
theorem pr_drop {α : Type} {R : V → α → Prop} : ∀ {vs : List V} {xs : List α} (n : Nat), Paired R vs xs → Paired R (vs.drop n) (xs.drop n)
  | _, _, 0, r => r
  | _, _, _ + 1, .nil => .nil
  | _, _, n + 1, .cons _ t => pr_drop n t
theorem pr_map {α β : Type} {R : V → α → Prop} {S : V → β → Prop} {f : α → β} (h : ∀ v x, R v x → S v (f x)) : ∀ {vs : List V} {xs : List α}, Paired R vs xs → Paired S vs (xs.map f)
  | _, _, .nil => .nil
  | _, _, .cons r t => .cons (h _ _ r) (pr_map h t)
theorem pr_mem {α : Type} {R : V → α → Prop} {v : V} : ∀ {vs : List V} {xs : List α}, Paired R vs xs → v ∈ vs → ∃ x ∈ xs, R v x
  | _, _, .nil, h => by simp at h
  | _, _, .cons r t, h => by
    rcases List.mem_cons.mp h with e | h
    · subst e; exact ⟨_, List.mem_cons_self, r⟩
    · obtain ⟨x, hx, rx⟩ := pr_mem t h; exact ⟨x, List.mem_cons_of_mem _ hx, rx⟩
/-- lists of data -/
def kL {α : Type} (k : Kd α) : Kd (List α) := ⟨fun F v xs => ∃ a vs, v = .ref a ∧ F a = some (.lst vs) ∧ Paired (k.is F) vs xs, fun s ⟨a, vs, e, h, p⟩ => ⟨a, vs, e, s _ _ h, pr_mono (fun _ _ r => k.mono s r) p⟩⟩
/-! ### frames: F the part that never changes, H the whole; M the places that the step may change -/
structure Ext (M : Addr → Prop) (F H F' H' : Hp) : Prop where
  ff : Same F F'
  fh : Same F' H'
  hh : ∀ b o, H b = some o → ¬ M b → H' b = some o
  tr : ∀ b, H b ≠ none → H' b ≠ none
  new : ∀ b, H b ≠ none → F' b = F b
abbrev M0 : Addr → Prop := fun _ => False
section
variable {M M' : Addr → Prop} {F H F' H' F'' H'' : Hp} {p : Addr} {o : HO}
theorem Ext.refl (s : Same F H) : Ext M F H F H := ⟨Same.refl F, s, fun _ _ h _ => h, fun _ h => h, fun _ _ => rfl⟩
theorem Ext.trans (a : Ext M F H F' H') (b : Ext M F' H' F'' H'') : Ext M F H F'' H'' :=
  ⟨a.ff.trans b.ff, b.fh, fun c u h m => b.hh c u (a.hh c u h m) m, fun c h => b.tr c (a.tr c h), fun c h => (b.new c (a.tr c h)).trans (a.new c h)⟩
theorem Ext.mono (a : Ext M F H F' H') (h : ∀ b, M b → M' b) : Ext M' F H F' H' := ⟨a.ff, a.fh, fun c u e m => a.hh c u e fun z => m (h c z), a.tr, a.new⟩
theorem Ext.up (a : Ext M0 F H F' H') : Ext M F H F' H' := a.mono fun _ z => z.elim
theorem Ext.same (a : Ext M0 F H F' H') : Same H H' := fun b o h => a.hh b o h fun z => z
theorem Ext.free (a : Ext M F H F' H') (h : H' p = none) : H p = none := by
  cases q : H p with
  | none => rfl
  | some u => exact absurd h (a.tr p (by rw [q]; simp))
theorem Ext.ffree (a : Ext M F H F' H') (h : H' p = none) : F' p = none := a.fh.free h
/-- a new thing that never changes -/
theorem Ext.lay (a : Ext M F H F' H') (h : H' p = none) : Ext M F H (upd F' p o) (upd H' p o) := by
  have fp := a.ffree h
  have hp := a.free h
  refine ⟨fun b u e => ?_, fun b u e => ?_, fun b u e m => ?_, fun b e => ?_, fun b e => ?_⟩
  · rw [upd_ne (ne_of_none (a.ff b u e) fp)]; exact a.ff b u e
  · by_cases hb : b = p
    · subst hb; rw [upd_same] at e ⊢; exact e
    · rw [upd_ne hb] at e ⊢; exact a.fh b u e
  · rw [upd_ne (ne_of_none (a.hh b u e m) h)]; exact a.hh b u e m
  · by_cases hb : b = p
    · subst hb; exact absurd hp e
    · rw [upd_ne hb]; exact a.tr b e
  · by_cases hb : b = p
    · subst hb; exact absurd hp e
    · rw [upd_ne hb]; exact a.new b e
/-- a new thing outside of F, or a change of one -/
theorem Ext.put (a : Ext M F H F' H') (h : H p = none ∨ M p) (f : F' p = none) : Ext M F H F' (upd H' p o) := by
  refine ⟨a.ff, fun b u e => ?_, fun b u e m => ?_, fun b e => ?_, a.new⟩
  · rw [upd_ne (ne_of_none e f)]; exact a.fh b u e
  · have hb : b ≠ p := fun z => by
      subst z
      rcases h with h | h
      · rw [h] at e; cases e
      · exact m h
    rw [upd_ne hb]; exact a.hh b u e m
  · by_cases hb : b = p
    · subst hb; rw [upd_same]; simp
    · rw [upd_ne hb]; exact a.tr b e
theorem Ext.tmp (a : Ext M F H F' H') (h : H' p = none) : Ext M F H F' (upd H' p o) := a.put (.inl (a.free h)) (a.ffree h)
/-- what was made within, from now on never changes -/
theorem Ext.frz (a : Ext M F H F' H') (h : H p = none) (f : F' p = none) (e : H' p = some o) : Ext M F H (upd F' p o) H' := by
  refine ⟨fun b u z => ?_, fun b u z => ?_, a.hh, a.tr, fun b z => ?_⟩
  · rw [upd_ne (ne_of_none (a.ff b u z) f)]; exact a.ff b u z
  · by_cases hb : b = p
    · subst hb; rw [upd_same] at z; cases z; exact e
    · rw [upd_ne hb] at z; exact a.fh b u z
  · have hb : b ≠ p := fun q => by subst q; exact z h
    rw [upd_ne hb]; exact a.new b z
end
theorem same_upd {H : Hp} {p : Addr} {o : HO} (h : H p = none) : Same H (upd H p o) := fun b x e => by
  rw [upd_ne (ne_of_none e h)]
  exact e
/-- a promise: a new list of such data, of which φ holds; the list itself may be changed behind -/
def RetL {α : Type} (M : Addr → Prop) (F H : Hp) (k : Kd α) (φ : List α → Prop) (Q : VK) : Prop :=
  ∀ (F' H' : Hp) (a : Addr) (vs : List V) (xs : List α), Ext M F H F' H' → H a = none → F' a = none → H' a = some (.lst vs) → Paired (k.is F') vs xs → φ xs → Q (.ref a) H'
/-- a promise: this value, nothing changed -/
def RetV (F H : Hp) (v : V) (Q : VK) : Prop := ∀ (F' H' : Hp), Ext M0 F H F' H' → Q v H'
theorem kL_new {α : Type} {k : Kd α} {F' : Hp} {a : Addr} {vs : List V} {xs : List α} (f : F' a = none) (h : Paired (k.is F') vs xs) : (kL k).is (upd F' a (.lst vs)) (.ref a) xs :=
  ⟨a, vs, rfl, upd_same, pr_mono (fun _ _ r => k.mono (same_upd f) r) h⟩
/-! ### as data of the library -/
def dRow (r : Row) : PyData := .tuple [.int r.1, .int r.2.1, .int r.2.2]
def dPt (p : Pt) : PyData := .tuple [.int p.1, .int p.2]
structure Kd.Enc {α : Type} (k : Kd α) (d : α → PyData) : Prop where
  dp : ∀ {K : PySem.W.Frag} {F H : Hp} {v : V} {x : α}, Same F H → k.is F v x → Dp K H v (d x)
theorem dpInts {K : PySem.W.Frag} {H : Hp} : ∀ ns : List Int, DpAll K H (ns.map V.int) (ns.map PyData.int)
  | [] => .nil
  | n :: ns => .cons (.int n) (dpInts ns)
theorem enc_row : kRow.Enc dRow := ⟨fun s ⟨t, e, h⟩ => by subst e; exact .tup (SqT.of (s _ _ h)) (dpInts [_, _, _])⟩
theorem enc_pt : kPt.Enc dPt := ⟨fun s ⟨t, e, h⟩ => by subst e; exact .tup (SqT.of (s _ _ h)) (dpInts [_, _])⟩
theorem dpAll {α : Type} {k : Kd α} {d : α → PyData} (E : k.Enc d) {K : PySem.W.Frag} {F H : Hp} (s : Same F H) : ∀ {vs : List V} {xs : List α}, Paired (k.is F) vs xs → DpAll K H vs (xs.map d)
  | _, _, .nil => .nil
  | _, _, .cons r t => .cons (E.dp s r) (dpAll E s t)
def dL {α : Type} (d : α → PyData) (xs : List α) : PyData := .list (xs.map d)
theorem enc_L {α : Type} {k : Kd α} {d : α → PyData} (E : k.Enc d) : (kL k).Enc (dL d) := ⟨fun s ⟨a, vs, e, h, p⟩ => by subst e; exact .lst (SqL.of (s _ _ h)) (dpAll E s p)⟩
end Rw
namespace Rw
open PySem PySem.Spec PyProof.Rows L2
/-! ### sorted(d) of a dict whose keys are pairs of ints, any length -/
section
variable {prog : Program} {w : World} {A : Around} {E : Value → Shared → Prop} {s : Shared} {T : String} {r d : Addr} {n : Nat} {P : Nat → Value → Prop} {OK : Heap → Prop}
theorem sorted_src {vs : List Value} {k : Value → Int × Int} {Q : Value → Shared → Prop} (K : PySem.W.KdlSrc prog w T r d n P OK) (hh : A.handled = none) (hok : OK s.heap) (hn : n ≤ sizeLine)
    (hv : ∀ acc, ItemsOf P acc n → acc.toList = vs) (hp : ∀ v ∈ vs, Srt.IsPair s.heap v (k v).1 (k v).2)
    (h : ∀ (h1 h' : Heap) (tk : Nat) (e : Addr) (out : List Value), SrtO.Srtd (fun v u => SrtO.lexB (k v) (k u)) out → SrtO.Stb (fun v u => SrtO.lexB (k v) (k u)) out vs → (∀ b o, s.heap.get? b = some o → h1.get? b = some o) → (∀ b o, h1.get? b = some o → h'.get? b = some o) → h1.objs.size ≤ e →
      (∃ n, h'.get? e = some (seqObj "list" out.toArray n)) → Q (.ref e) { s with heap := h', toks := tk }) :
    wpAny (model prog w) A (call (.builtin "sorted") [.ref r]) Q E s := by
  refine Calls.call_function_entry kind_sorted plain_sorted entry_sorted (args_sorted1 _) ?_
  unfold Builtin.«sorted»
  refine wpAny_bind (m := checkCount "sorted" 1 1 _) (wpAny_pure ?_)
  refine wpAny_bind (PySem.W.kdu_collect (A := A.in1) K hh hok hn fun h' tk acc hk hacc => ?_)
  have e := hv acc hacc
  have hz : vs.length ≤ sizeLine := by rw [← e, Array.length_toList, hacc.1]; exact hn
  rw [e]
  refine wpAny_bind (wpAny_newList ?_ hz)
  have hoL : (h'.push (seqObj "list" vs.toArray 0)).get? h'.objs.size = some (seqObj "list" vs.toArray 0) := Heap.get?_push_size _ rfl
  have keep : ∀ b o, s.heap.get? b = some o → b ≠ h'.objs.size ∧ (h'.push (seqObj "list" vs.toArray 0)).get? b = some o := fun b o q =>
    ⟨Nat.ne_of_lt (Heap.lt_size (hk b o q)), Heap.get?_push_of_some _ (hk b o q)⟩
  show wpAny _ _ _ _ _ { s with heap := h'.push (seqObj "list" vs.toArray 0), toks := tk }
  refine wpAny_bind (wpAny_holding (wpAny_call_entry slot_list_sort ⟨_, hoL, rfl⟩ entry_list_sort
    (SrtO.list_sort_ord (s := { s with heap := h'.push (seqObj "list" vs.toArray 0), toks := tk }) (SrtO.swo_lex k) hoL hz (fun h2 => ?_) fun out hs hb => ⟨_, rfl, ?_⟩) (args_list_sort _)))
  · refine SrtO.pairs_sortableO (s := { s with heap := h'.push (seqObj "list" vs.toArray 0), toks := tk }) (by omega) (fun v hm => (hp v hm).keeps fun b o e _ => (keep b o e).2) fun o e' => ?_
    have e2 : some o = some (seqObj "list" vs.toArray 0) := e'.symm.trans hoL
    cases e2
    intro c
    exact absurd (Value.type.inj c) (by decide)
  · refine wpAny_pure ⟨_, rfl, h h' _ tk h'.objs.size out hs hb hk (fun b o q => ?_) (Nat.le_refl _) (sortedHeap_at hoL)⟩
    have hb : b < h'.objs.size := Heap.lt_size q
    rw [sortedHeap_old (Nat.ne_of_lt hb) (by rw [size_push']; exact Nat.lt_succ_of_lt hb)]
    exact Heap.get?_push_of_some _ q
end
/-- the key of a point -/
def kk (p : Pt) : List Key := [.inl p.1, .inl p.2]
theorem kk_inj {p q : Pt} (h : kk p = kk q) : p = q := by
  unfold kk at h
  have h1 := List.cons.inj h
  have h2 := List.cons.inj h1.2
  obtain ⟨p1, p2⟩ := p
  obtain ⟨q1, q2⟩ := q
  have e1 : p1 = q1 := Sum.inl.inj h1.1
  have e2 : p2 = q2 := Sum.inl.inj h2.1
  rw [e1, e2]
section
variable {X : Cx}
/-- the pair of ints that a value is, by the abstract heap -/
noncomputable def ptOf (H : Hp) (v : V) : Pt := open Classical in if h : ∃ p : Pt, kPt.is H v p then h.choose else (0, 0)
theorem kPt_inj {H : Hp} {v : V} {p q : Pt} (a : kPt.is H v p) (b : kPt.is H v q) : p = q := by
  obtain ⟨t, e, h⟩ := a
  obtain ⟨u, e', h'⟩ := b
  subst e
  cases e'
  rw [h] at h'
  have z := HO.tup.inj (Option.some.inj h')
  have z1 := List.cons.inj z
  have z2 := List.cons.inj z1.2
  obtain ⟨p1, p2⟩ := p
  obtain ⟨q1, q2⟩ := q
  have e1 : p1 = q1 := V.int.inj z1.1
  have e2 : p2 = q2 := V.int.inj z2.1
  rw [e1, e2]
theorem ptOf_eq {H : Hp} {v : V} {p : Pt} (h : kPt.is H v p) : ptOf H v = p := by
  have e : ∃ p : Pt, kPt.is H v p := ⟨p, h⟩
  unfold ptOf
  rw [dif_pos e]
  exact kPt_inj e.choose_spec h
theorem isPair_of {pins : List (Addr × Obj)} {σ : L2.St} {H : Hp} {s : Shared} (I : Inv X pins σ H s) {t : Addr} {p : Pt} (h : kPt.is H (.ref t) p) : Srt.IsPair s.heap (.ref t) p.1 p.2 := by
  obtain ⟨u, e, ht⟩ := h
  cases e
  obtain ⟨_, its2, r2, o, ho, hc, n, hd⟩ := I.hok _ _ ht
  obtain ⟨u1, u2, rfl, ri, rj⟩ := vals2 r2
  obtain ⟨t1, rfl⟩ := ri
  obtain ⟨t2, rfl⟩ := rj
  exact ⟨_, o, t1, t2, n, rfl, ho, hc, hd⟩
theorem keys_pts {H : Hp} : ∀ {kvs : List (List Key × V)} {bs : List Addr} {ps : List Pt}, IsKeys H kvs bs → kvs.map (·.1) = ps.map kk → Paired (kPt.is H) (bs.map V.ref) ps
  | [], _, [], .nil, _ => .nil
  | [], _, _ :: _, .nil, e => by simp at e
  | _ :: _, _, [], _, e => by simp at e
  | kv :: kvs, _, p :: ps, .cons (b := b) r t, e => by
    have e1 := List.cons.inj e
    refine .cons ⟨b, rfl, ?_⟩ (keys_pts t e1.2)
    have : kv.1 = kk p := e1.1
    rw [this] at r
    exact r
theorem pr_perm {α : Type} {R : V → α → Prop} {f : V → α} (hf : ∀ v x, R v x → f v = x) : ∀ {vs : List V} {xs : List α}, Paired R vs xs → xs = vs.map f
  | _, _, .nil => rfl
  | _, _, .cons r t => by rw [List.map_cons, ← pr_perm hf t, hf _ _ r]
theorem pr_of_all {α : Type} {R : V → α → Prop} {f : V → α} : ∀ {vs : List V}, (∀ v ∈ vs, R v (f v)) → Paired R vs (vs.map f)
  | [], _ => .nil
  | v :: vs, h => .cons (h v List.mem_cons_self) (pr_of_all fun u hu => h u (List.mem_cons_of_mem _ hu))
/-- what behind a sort of pairs stands: the points, in order -/
theorem sorted_pts {H : Hp} {vs ys : List V} {ps : List Pt} (h : Paired (kPt.is H) vs ps) (nd : ps.Nodup) (hs : SrtO.Srtd (ltP (ptOf H)) ys) (hb : SrtO.Stb (ltP (ptOf H)) ys vs) :
    ∃ qs : List Pt, Paired (kPt.is H) ys qs ∧ qs.Perm ps ∧ qs.Pairwise lt2 := by
  have e : ps = vs.map (ptOf H) := pr_perm (fun v x r => ptOf_eq r) h
  have all : ∀ v ∈ ys, kPt.is H v (ptOf H v) := fun v hv => by
    obtain ⟨x, _, r⟩ := pr_mem h (hb.perm.mem_iff.mp hv)
    rw [ptOf_eq r]
    exact r
  have perm : (ys.map (ptOf H)).Perm ps := by rw [e]; exact hb.perm.map _
  refine ⟨ys.map (ptOf H), pr_of_all all, perm, ?_⟩
  have nd' : (ys.map (ptOf H)).Nodup := perm.nodup_iff.mpr nd
  rw [List.pairwise_map]
  have nd2 : ys.Pairwise fun a b => ptOf H a ≠ ptOf H b := List.pairwise_map.mp nd'
  refine (List.Pairwise.and hs nd2).imp fun {a b} z => ?_
  have a1 := SrtO.lexB_no.mp z.1
  have a2 := z.2
  unfold lt2
  have a3 : ¬ ((ptOf H a).1 = (ptOf H b).1 ∧ (ptOf H a).2 = (ptOf H b).2) := fun q => a2 (Prod.ext q.1 q.2)
  omega
def rSortedDT : List V → Hp → VK → Prop := fun vs H Q => ∃ (d : Addr) (kvs : List (List Key × V)) (ps : List Pt), vs = [V.ref d] ∧ H d = some (.dT kvs) ∧ kvs.map (·.1) = ps.map kk ∧ ps.Nodup ∧
  ∀ (ys : List V) (qs : List Pt) (p : Addr), Paired (kPt.is H) ys qs → qs.Perm ps → qs.Pairwise lt2 → H p = none → Q (.ref p) (upd H p (.lst ys))
theorem cr_sortedDT (hc : X.calm = true) : CallR X (.builtin "sorted") rSortedDT := by
  intro pins s σ H xs us Q I r h
  obtain ⟨d, kvs, ps, rfl, hd, hps, hnd, q⟩ := h
  obtain ⟨u, rfl, rx⟩ := r.one
  cases rx
  obtain ⟨z, hs, ks, pr, o, es, ep, ho, hx, hdt, he, hn⟩ := (show ObjOk X.prog X.w H s.heap d (.dT kvs) from I.hok d _ hd)
  have l1 : es.size = ks.length := size_of_entries he
  have l2 : kvs.length = ks.length := Paired.length pr
  have hpp : Paired (kPt.is H) ((ks.map fun x => x.2.1).map V.ref) ps := keys_pts (isKeys_of pr) hps
  refine sorted_src (vs := (ks.map fun x => x.2.1).map Value.ref) (k := fun u => ptOf H (backV u)) (kdl_raw hs hx hdt) (I.ok.hd hc) ho (by omega) (fun acc' it => ?_) (fun v hv => ?_) fun h1 h' tk e out hs1 hb1 k1 k2 hle hob => ?_
  · have hl : acc'.toList.length = ks.length := by rw [Array.length_toList, it.1]; exact l1
    rw [List.map_map]
    apply List.ext_getElem?
    intro j
    rw [List.getElem?_map]
    cases hj : acc'.toList[j]? with
    | none =>
      have h1 := List.getElem?_eq_none_iff.mp hj
      rw [List.getElem?_eq_none (by omega)]
      all_goals rfl
    | some v =>
      obtain ⟨en, hen, hv⟩ := it.2 j v (by rw [← Array.getElem?_toList]; exact hj)
      have qe := entry_at he j
      rw [hen] at qe
      cases hb : ks[j]? with
      | none =>
        rw [hb] at qe
        exact nomatch (show some en = none from qe)
      | some b =>
        rw [hb] at qe
        have e2 : en = entryOfKey (tupleKind (mixKind X.prog X.w)) b := Option.some.inj qe
        rw [hv, e2]
        all_goals rfl
  · obtain ⟨t, ht, rfl⟩ := List.mem_map.mp hv
    obtain ⟨x, _, rx⟩ := pr_mem hpp (List.mem_map.mpr ⟨t, ht, rfl⟩)
    have : ptOf H (backV (Value.ref t)) = x := ptOf_eq rx
    show Srt.IsPair _ _ (ptOf H (backV (Value.ref t))).1 (ptOf H (backV (Value.ref t))).2
    rw [this]
    exact isPair_of I rx
  · have h3 : ∀ u ∈ out, ∃ a, u = Value.ref a := fun u hu => by
      have := hb1.perm.mem_iff.mp hu
      obtain ⟨t, _, rfl⟩ := List.mem_map.mp this
      exact ⟨t, rfl⟩
    have hback : ((ks.map fun x => x.2.1).map Value.ref).map backV = (ks.map fun x => x.2.1).map V.ref := by
      rw [List.map_map]
      exact List.map_congr_left fun _ _ => rfl
    have hb2 : SrtO.Stb (ltP (ptOf H)) (out.map backV) ((ks.map fun x => x.2.1).map V.ref) := by
      rw [← hback]
      exact SrtO.Stb.map (ltP_swo (ptOf H)) backV hb1
    obtain ⟨qs, a1, a2, a3⟩ := sorted_pts hpp hnd (SrtO.srtd_map hs1) hb2
    obtain ⟨n, hob⟩ := hob
    have I1 : Inv X pins σ H { s with heap := h1 } := I.kept (t' := s.toks) k1
    refine ⟨.ref e, upd H e (.lst (out.map backV)), I1.laid (t' := tk) k2 hle ⟨?_, out, n, vals_back h3, hob⟩, rfl, q _ qs e a1 a2 a3 (I1.hok.fresh hle)⟩
    rw [hb2.len, List.length_map, List.length_map, ← l2]
    exact z
end
end Rw
namespace Rw
open PySem L2
section
variable (P : Program) (w : World) (K : PySem.W.Frag) (mg : Str → Option Value) (base : Heap)
/-- a def that may be called by its name -/
def Cal (k : Nat) (x : Str) (ps : List Str) (sp : Sp) : Prop :=
  ∃ (f : Addr) (fd : FuncData), FnOk P w K mg base CX0 k f fd ps sp ∧ mg x = some (.ref f) ∧ PySem.W.keepIn K (.ref f) = true ∧ Binds K fd ps []
end
theorem tyx_int {K : PySem.W.Frag} {H : Hp} (i : Int) : TyX K H (.int i) (.type "int") := .base (.int i)
theorem tyx_tup {K : PySem.W.Frag} {H : Hp} {a : Addr} {xs : List V} (h : H a = some (.tup xs)) : TyX K H (.ref a) (.type "tuple") := .base (.tup h)
theorem tyx_lst {K : PySem.W.Frag} {H : Hp} {a : Addr} {xs : List V} (h : H a = some (.lst xs)) : TyX K H (.ref a) (.type "list") := .base (.lst h)
theorem kit_ii {K : PySem.W.Frag} : PySem.W.kitOne K (.type "int") (.type "int") = some true := kit_ty (by decide +kernel)
theorem kit_ib {K : PySem.W.Frag} : PySem.W.kitOne K (.type "int") (.type "bool") = some false := kit_ty (by decide +kernel)
theorem kit_tt {K : PySem.W.Frag} : PySem.W.kitOne K (.type "tuple") (.type "tuple") = some true := kit_ty (by decide +kernel)
theorem bt_int : bootBuiltins "int" = some (.type "int") := by decide +kernel
theorem bt_bool : bootBuiltins "bool" = some (.type "bool") := by decide +kernel
theorem bt_tuple : bootBuiltins "tuple" = some (.type "tuple") := by decide +kernel
theorem pe_bty {X : Cx} {x : Str} {n : String} {pos : Pos} (hg : Gl X x) (hm : X.mg x = none) (hv : bootBuiltins x = some (.type n)) (hn : x ≠ "__name__" := by decide) (hd : (x == ("__debug__" : Str)) = false := by decide) : PE X (.Name x pos) (tC (.ty n)) :=
  pe_bltn (v := .ty n) (u := .type n) hg hm hv rfl hn hd
end Rw
namespace Rw
open PySem L2
def topS (i : Nat) : Stmt := PySem.Challenge.pw_doneranges_k22_leads.main.body.getD i (.Pass ⟨0, 0, 0, 0⟩)
abbrev s_BadStretches___init__ : Stmt := inClass (topS 2) 0
theorem sc_BadStretches___init__ : FnScope ["self", "at"] ["self", "at"] (defScope s_BadStretches___init__) := ⟨rfl, rfl, rfl, by decide +kernel, rfl, by decide +kernel, by decide +kernel⟩
abbrev s_BadDeed___init__ : Stmt := inClass (topS 5) 0
theorem sc_BadDeed___init__ : FnScope ["self", "at"] ["self", "at"] (defScope s_BadDeed___init__) := ⟨rfl, rfl, rfl, by decide +kernel, rfl, by decide +kernel, by decide +kernel⟩
abbrev s_BadText___init__ : Stmt := inClass (topS 7) 0
theorem sc_BadText___init__ : FnScope ["self", "place"] ["self", "place"] (defScope s_BadText___init__) := ⟨rfl, rfl, rfl, by decide +kernel, rfl, by decide +kernel, by decide +kernel⟩
abbrev s_BadEvent___init__ : Stmt := inClass (topS 10) 0
theorem sc_BadEvent___init__ : FnScope ["self", "at"] ["self", "at"] (defScope s_BadEvent___init__) := ⟨rfl, rfl, rfl, by decide +kernel, rfl, by decide +kernel, by decide +kernel⟩
abbrev s_is_number : Stmt := topS 15
theorem sc_is_number : FnScope ["value", "low", "high"] ["value", "low", "high"] (defScope s_is_number) := ⟨rfl, rfl, rfl, by decide +kernel, rfl, by decide +kernel, by decide +kernel⟩
abbrev s_is_house : Stmt := topS 16
theorem sc_is_house : FnScope ["value"] ["value"] (defScope s_is_house) := ⟨rfl, rfl, rfl, by decide +kernel, rfl, by decide +kernel, by decide +kernel⟩
abbrev s_is_row : Stmt := topS 17
theorem sc_is_row : FnScope ["row", "house", "first", "last"] ["row"] (defScope s_is_row) := ⟨rfl, rfl, rfl, by decide +kernel, rfl, by decide +kernel, by decide +kernel⟩
abbrev s_first_wrong : Stmt := topS 18
theorem sc_first_wrong : FnScope ["rows", "at", "row"] ["rows"] (defScope s_first_wrong) := ⟨rfl, rfl, rfl, by decide +kernel, rfl, by decide +kernel, by decide +kernel⟩
abbrev s_check_rows : Stmt := topS 19
theorem sc_check_rows : FnScope ["rows", "at"] ["rows"] (defScope s_check_rows) := ⟨rfl, rfl, rfl, by decide +kernel, rfl, by decide +kernel, by decide +kernel⟩
abbrev s_changes_of : Stmt := topS 20
theorem sc_changes_of : FnScope ["weighed", "changes", "house", "first", "last", "weight"] ["weighed"] (defScope s_changes_of) := ⟨rfl, rfl, rfl, by decide +kernel, rfl, by decide +kernel, by decide +kernel⟩
abbrev s_reaching : Stmt := topS 21
theorem sc_reaching : FnScope ["weighed", "least", "changes", "out", "total", "start", "house", "number", "ahead"] ["weighed", "least"] (defScope s_reaching) := ⟨rfl, rfl, rfl, by decide +kernel, rfl, by decide +kernel, by decide +kernel⟩
abbrev s_fewest : Stmt := topS 22
theorem sc_fewest : FnScope ["rows", "row"] ["rows"] (defScope s_fewest) := ⟨rfl, rfl, rfl, by decide +kernel, rfl, by decide +kernel, by decide +kernel⟩
abbrev s_held_by_many : Stmt := topS 23
theorem sc_held_by_many : FnScope ["sets", "least", "rows", "row"] ["sets", "least"] (defScope s_held_by_many) := ⟨rfl, rfl, rfl, by decide +kernel, rfl, by decide +kernel, by decide +kernel⟩
abbrev s_without : Stmt := topS 24
theorem sc_without : FnScope ["one", "other", "kept", "barred", "row"] ["one", "other"] (defScope s_without) := ⟨rfl, rfl, rfl, by decide +kernel, rfl, by decide +kernel, by decide +kernel⟩
abbrev s_check_many : Stmt := topS 28
theorem sc_check_many : FnScope ["many"] ["many"] (defScope s_check_many) := ⟨rfl, rfl, rfl, by decide +kernel, rfl, by decide +kernel, by decide +kernel⟩
abbrev s_check_one_of : Stmt := topS 29
theorem sc_check_one_of : FnScope ["which", "many"] ["which", "many"] (defScope s_check_one_of) := ⟨rfl, rfl, rfl, by decide +kernel, rfl, by decide +kernel, by decide +kernel⟩
abbrev s_Lead___init__ : Stmt := inClass (topS 31) 0
theorem sc_Lead___init__ : FnScope ["self", "many"] ["self", "many"] (defScope s_Lead___init__) := ⟨rfl, rfl, rfl, by decide +kernel, rfl, by decide +kernel, by decide +kernel⟩
abbrev s_Lead_heard : Stmt := inClass (topS 31) 1
theorem sc_Lead_heard : FnScope ["self", "seat", "rows"] ["self", "seat", "rows"] (defScope s_Lead_heard) := ⟨rfl, rfl, rfl, by decide +kernel, rfl, by decide +kernel, by decide +kernel⟩
abbrev s_Lead_must : Stmt := inClass (topS 31) 2
theorem sc_Lead_must : FnScope ["self"] ["self"] (defScope s_Lead_must) := ⟨rfl, rfl, rfl, by decide +kernel, rfl, by decide +kernel, by decide +kernel⟩
abbrev s_Lead_begin : Stmt := inClass (topS 31) 3
theorem sc_Lead_begin : FnScope ["self", "rows"] ["self", "rows"] (defScope s_Lead_begin) := ⟨rfl, rfl, rfl, by decide +kernel, rfl, by decide +kernel, by decide +kernel⟩
abbrev s_Lead_kept : Stmt := inClass (topS 31) 4
theorem sc_Lead_kept : FnScope ["self", "seat", "rows"] ["self", "seat", "rows"] (defScope s_Lead_kept) := ⟨rfl, rfl, rfl, by decide +kernel, rfl, by decide +kernel, by decide +kernel⟩
abbrev s_Lead_shown : Stmt := inClass (topS 31) 5
theorem sc_Lead_shown : FnScope ["self"] ["self"] (defScope s_Lead_shown) := ⟨rfl, rfl, rfl, by decide +kernel, rfl, by decide +kernel, by decide +kernel⟩
abbrev s_Lead_leads : Stmt := inClass (topS 31) 6
theorem sc_Lead_leads : FnScope ["self"] ["self"] (defScope s_Lead_leads) := ⟨rfl, rfl, rfl, by decide +kernel, rfl, by decide +kernel, by decide +kernel⟩
abbrev s_Lead__most : Stmt := inClass (topS 31) 7
theorem sc_Lead__most : FnScope ["self"] ["self"] (defScope s_Lead__most) := ⟨rfl, rfl, rfl, by decide +kernel, rfl, by decide +kernel, by decide +kernel⟩
abbrev s_Lead__check_begun : Stmt := inClass (topS 31) 8
theorem sc_Lead__check_begun : FnScope ["self"] ["self"] (defScope s_Lead__check_begun) := ⟨rfl, rfl, rfl, by decide +kernel, rfl, by decide +kernel, by decide +kernel⟩
abbrev s_law_dice : Stmt := topS 33
theorem sc_law_dice : FnScope ["_law_script", "_law_mixed", "_law_cell"] ["_law_script"] (defScope s_law_dice) := ⟨rfl, rfl, rfl, by decide +kernel, rfl, by decide +kernel, by decide +kernel⟩
abbrev s_law_next : Stmt := topS 34
theorem sc_law_next : FnScope ["_law_dice_here", "_law_many", "_law_found", "_law_cell"] ["_law_dice_here", "_law_many"] (defScope s_law_next) := ⟨rfl, rfl, rfl, by decide +kernel, rfl, by decide +kernel, by decide +kernel⟩
abbrev s_law_like : Stmt := topS 35
theorem sc_law_like : FnScope ["_law_found", "_law_due", "_law_k"] ["_law_found", "_law_due"] (defScope s_law_like) := ⟨rfl, rfl, rfl, by decide +kernel, rfl, by decide +kernel, by decide +kernel⟩
abbrev s_law_rows : Stmt := topS 36
theorem sc_law_rows : FnScope ["_law_d", "_law_houses", "_law_far", "_law_most", "_law_found", "_law_k", "_law_first", "_law_wide"] ["_law_d", "_law_houses", "_law_far", "_law_most"] (defScope s_law_rows) := ⟨rfl, rfl, rfl, by decide +kernel, rfl, by decide +kernel, by decide +kernel⟩
abbrev s_law_names : Stmt := topS 37
theorem sc_law_names : FnScope ["_law_rows_here", "_law_found", "_law_house", "_law_first", "_law_last", "_law_number"] ["_law_rows_here"] (defScope s_law_names) := ⟨rfl, rfl, rfl, by decide +kernel, rfl, by decide +kernel, by decide +kernel⟩
abbrev s_law_told_rows : Stmt := topS 38
theorem sc_law_told_rows : FnScope ["_law_names_here", "_law_found", "_law_house", "_law_number"] ["_law_names_here"] (defScope s_law_told_rows) := ⟨rfl, rfl, rfl, by decide +kernel, rfl, by decide +kernel, by decide +kernel⟩
abbrev s_law_told : Stmt := topS 39
theorem sc_law_told : FnScope ["_law_work", "e", "_law_kinds", "_law_words", "_law_word"] ["_law_work"] (defScope s_law_told) := ⟨rfl, rfl, rfl, by decide +kernel, rfl, by decide +kernel, by decide +kernel⟩
abbrev s_law_shown : Stmt := topS 40
theorem sc_law_shown : FnScope ["_law_many", "_law_kept", "_law_every", "_law_seat", "_law_name"] ["_law_many", "_law_kept"] (defScope s_law_shown) := ⟨rfl, rfl, rfl, by decide +kernel, rfl, by decide +kernel, by decide +kernel⟩
abbrev s_law_deed : Stmt := topS 41
theorem sc_law_deed : FnScope ["_law_d", "_law_lead", "_law_own", "_law_many", "_law_kind", "_law_must", "_law_one", "_law_good", "_law_odd", "_law_rows_here", "_law_seat", "_law_name"] ["_law_d", "_law_lead", "_law_own"] (defScope s_law_deed) := ⟨rfl, rfl, rfl, by decide +kernel, rfl, by decide +kernel, by decide +kernel⟩
abbrev s_law : Stmt := topS 42
theorem sc_law : FnScope ["_law_script", "_law_d", "_law_sides", "_law_k", "_law_many", "_law_turn", "_law_lead", "_law_own", "_law_found", "_law_due", "_law_other", "_law_must", "_law_seat", "_law_wanted", "_law_shown_here", "_law_told_here", "_law_one", "_law_a"] ["_law_script"] (defScope s_law) := ⟨rfl, rfl, rfl, by decide +kernel, rfl, by decide +kernel, by decide +kernel⟩
end Rw
namespace Rw
open PySem L2
/-! ### the refusals' readers, of what is right -/
def LIM : Int := 1000000000000
def spIsNumber : Sp := fun vs H Q _ => ∃ v lo hi : Int, vs = [.int v, .int lo, .int hi] ∧ Q (.bl (decide (lo ≤ v ∧ v ≤ hi))) H
def spIsHouse : Sp := fun vs H Q _ => ∃ v : Int, vs = [.int v] ∧ Q (.bl (decide (0 ≤ v ∧ v ≤ 7))) H
/-- a row as it may be handed in -/
def RowOk (r : Row) : Prop := 0 ≤ r.1 ∧ r.1 ≤ 7 ∧ 1 ≤ r.2.1 ∧ r.2.1 ≤ r.2.2 ∧ r.2.2 ≤ LIM
def spIsRow : Sp := fun vs H Q _ => ∃ (v : V) (r : Row), vs = [v] ∧ kRow.is H v r ∧ RowOk r ∧ Q (.bl true) H
def RowsOk (rs : List Row) : Prop := rs.length ≤ 200 ∧ ∀ r ∈ rs, RowOk r
def spFirstWrong : Sp := fun vs H Q _ => ∃ (v : V) (rs : List Row), vs = [v] ∧ (kL kRow).is H v rs ∧ RowsOk rs ∧ ∀ H', Same H H' → Q .non H'
structure TxA (mg : Str → Option Value) : Prop where
  isinst : mg "isinstance" = none
  int : mg "int" = none
  bool : mg "bool" = none
  tuple : mg "tuple" = none
  len : mg "len" = none
  enum : mg "enumerate" = none
  last : ∃ t, mg "LAST_HOUSE" = some (.int 7 t)
  lim : ∃ t, mg "LIMIT" = some (.int LIM t)
  most : ∃ t, mg "MOST_ROWS" = some (.int 200 t)
section
variable {P : Program} {w : World} {K : PySem.W.Frag} {mg : Str → Option Value} {base : Heap}
theorem ok_is_number {f : Addr} {fd : FuncData} (F : Fun K "is_number" "is_number" s_is_number f fd) (T : TxA mg) : FnOk P w K mg base CX0 1 f fd ["value", "low", "high"] spIsNumber := by
  refine F.ok sc_is_number (fun vs H Q E h => ?_) (fun cdv A outer s H vs Q E hr h => ?_)
  · obtain ⟨v, lo, hi, rfl, _⟩ := h
    rfl
  · obtain ⟨v, lo, hi, rfl, q⟩ := h
    refine ⟨_, pss_one (ps_ret (pe_and (pe_callB call_isi (by rfl) T.isinst (by decide +kernel) (pa_cons (pv 0) (pa_cons (pe_bty (by rfl) T.int bt_int) pa_nil)))
      (pe_and (pe_not (pe_callB call_isi (by rfl) T.isinst (by decide +kernel) (pa_cons (pv 0) (pa_cons (pe_bty (by rfl) T.bool bt_bool) pa_nil))))
      (pe_one (pe_chain op_le op_le (pv 1) (pv 0) (pv 2)))))), ?_⟩
    refine ⟨_, rfl, _, .ty "int", _, _, _, rfl, .ty _, tyx_int _, kit_ii, true, rfl, iteT ?_⟩
    refine ⟨_, rfl, _, .ty "bool", _, _, _, rfl, .ty _, tyx_int _, kit_ib, false, rfl, true, rfl, iteT ?_⟩
    refine ⟨_, rfl, _, rfl, _, _, rfl, rfl, _, rfl, ite2 (fun h1 => ?_) (fun h1 => ?_)⟩
    · have h1 := of_decide_eq_true h1
      refine ⟨_, rfl, _, _, rfl, rfl, ?_⟩
      have e : decide (v ≤ hi) = decide (lo ≤ v ∧ v ≤ hi) := by
        by_cases z : v ≤ hi
        · rw [decide_eq_true z, decide_eq_true ⟨h1, z⟩]
        · rw [decide_eq_false z, decide_eq_false fun q => z q.2]
      rw [← e] at q
      exact q
    · have h1' : ¬ lo ≤ v := fun z => h1 (decide_eq_true z)
      rw [decide_eq_false fun q => h1' q.1] at q
      exact q
theorem ok_is_house {f : Addr} {fd : FuncData} (F : Fun K "is_house" "is_house" s_is_house f fd) (T : TxA mg) (CN : Cal P w K mg base 1 "is_number" ["value", "low", "high"] spIsNumber) : FnOk P w K mg base CX0 2 f fd ["value"] spIsHouse := by
  obtain ⟨f1, fd1, G1, g1, kp1, b1⟩ := CN
  obtain ⟨t7, h7⟩ := T.last
  refine F.ok sc_is_house (fun vs H Q E h => ?_) (fun cdv A outer s H vs Q E hr h => ?_)
  · obtain ⟨v, rfl, _⟩ := h
    rfl
  · obtain ⟨v, rfl, q⟩ := h
    refine ⟨_, pss_one (ps_ret (pe_call G1 hr (by rfl) g1 kp1 b1 .nil pass0 (pa_cons (pv 0) (pa_cons pe_int (pa_cons (pe_glob (v := .int 7) (by rfl) h7 ⟨_, rfl⟩) pa_nil))))), ?_⟩
    exact ⟨_, rfl, v, 0, 7, rfl, q⟩
theorem ok_is_row {f : Addr} {fd : FuncData} (F : Fun K "is_row" "is_row" s_is_row f fd) (T : TxA mg) (CN : Cal P w K mg base 1 "is_number" ["value", "low", "high"] spIsNumber) (CH : Cal P w K mg base 2 "is_house" ["value"] spIsHouse) : FnOk P w K mg base CX0 3 f fd ["row"] spIsRow := by
  obtain ⟨f1, fd1, G1, g1, kp1, b1⟩ := CN
  obtain ⟨f2, fd2, G2, g2, kp2, b2⟩ := CH
  obtain ⟨tl, hl⟩ := T.lim
  refine F.ok sc_is_row (fun vs H Q E h => ?_) (fun cdv A outer s H vs Q E hr h => ?_)
  · obtain ⟨v, r, rfl, _⟩ := h
    rfl
  · obtain ⟨v, r, rfl, ⟨t, rfl, ht⟩, ⟨r1, r2, r3, r4, r5⟩, q⟩ := h
    have hr1 : Room 1 _ := hr.mono (by decide)
    refine ⟨_, pss_cons (ps_if (PW.pt (pw_or (pt_not (pt_val (pe_callB call_isi (by rfl) T.isinst (by decide +kernel) (pa_cons (pv 0) (pa_cons (pe_bty (by rfl) T.tuple bt_tuple) pa_nil)))))
        (pw_or1 (pt_cmpR op_ne (pe_callB call_len (by rfl) T.len PySem.boot_len (pa_cons (pv 0) pa_nil)) pe_int (nomark _))))) (pss_one (ps_ret pe_bl)) pss_nil)
      (pss_cons (ps_asg (pv 0) (pg_tup (by rfl) (pgs_cons (pg_name (i := 1) sc_is_row.nd rfl (.inl rfl)) (pgs_cons (pg_name (i := 2) sc_is_row.nd rfl (.inl rfl)) (pgs_cons (pg_name (i := 3) sc_is_row.nd rfl (.inl rfl)) pgs_nil)))))
      (pss_one (ps_ret (pe_and (pe_call G2 hr (by rfl) g2 kp2 b2 .nil pass0 (pa_cons (pv 1) pa_nil))
        (pe_and (pe_call G1 hr1 (by rfl) g1 kp1 b1 .nil pass0 (pa_cons (pv 2) (pa_cons pe_int (pa_cons (pe_glob (v := .int LIM) (by rfl) hl ⟨_, rfl⟩) pa_nil))))
          (pe_one (pe_call G1 hr1 (by rfl) g1 kp1 b1 .nil pass0 (pa_cons (pv 3) (pa_cons (pv 2) (pa_cons (pe_glob (v := .int LIM) (by rfl) hl ⟨_, rfl⟩) pa_nil)))))))))), ?_⟩
    refine ⟨_, rfl, _, .ty "tuple", _, _, _, rfl, .ty _, tyx_tup ht, kit_tt, true, rfl, iteF ?_⟩
    refine ⟨_, rfl, _, 3, rfl, .inr ⟨_, SqT.of ht, rfl⟩, rfl, false, by decide, iteF ?_⟩
    refine ⟨_, rfl, _, _, rfl, SqT.of ht, rfl, _, _, rfl, _, _, rfl, _, _, rfl, rfl, ?_⟩
    refine ⟨_, rfl, r.1, rfl, _, rfl, ?_⟩
    rw [decide_eq_true ⟨r1, r2⟩]
    refine iteT ⟨_, rfl, r.2.1, 1, LIM, rfl, _, rfl, ?_⟩
    rw [decide_eq_true ⟨r3, Int.le_trans r4 r5⟩]
    refine iteT ⟨_, rfl, _, rfl, r.2.2, r.2.1, LIM, rfl, ?_⟩
    rw [decide_eq_true ⟨r4, r5⟩]
    exact q
end
end Rw
namespace Rw
open PySem L2
theorem mem_cut {xs : List V} {lo hi : Option Int} {i : Nat} {x : V} (h : (cutV xs lo hi)[i]? = some x) : x ∈ xs := by
  have h1 := List.mem_of_getElem? h
  unfold cutV at h1
  exact List.mem_of_mem_drop (List.mem_of_mem_take h1)
theorem kL_mem {α : Type} {k : Kd α} {F : Hp} {vs : List V} {xs : List α} (h : Paired (k.is F) vs xs) {v : V} (m : v ∈ vs) : ∃ x ∈ xs, k.is F v x := pr_mem h m
def spCheckRows : Sp := fun vs H Q _ => ∃ (v : V) (rs : List Row), vs = [v] ∧ (kL kRow).is H v rs ∧ RowsOk rs ∧ ∀ H', Same H H' → Q .non H'
def spCheckHouse : Sp := fun vs H Q _ => ∃ (h : Int), vs = [.int h] ∧ 0 ≤ h ∧ h ≤ 7 ∧ Q .non H
section
variable {P : Program} {w : World} {K : PySem.W.Frag} {mg : Str → Option Value} {base : Heap}
theorem ok_first_wrong {f : Addr} {fd : FuncData} (F : Fun K "first_wrong" "first_wrong" s_first_wrong f fd) (T : TxA mg) (CR : Cal P w K mg base 3 "is_row" ["row"] spIsRow) : FnOk P w K mg base CX0 4 f fd ["rows"] spFirstWrong := by
  obtain ⟨f1, fd1, G1, g1, kp1, b1⟩ := CR
  obtain ⟨tm, hm⟩ := T.most
  refine F.ok sc_first_wrong (fun vs H Q E h => ?_) (fun cdv A outer s H vs Q E hr h => ?_)
  · obtain ⟨v, rs, rfl, _⟩ := h
    rfl
  · obtain ⟨v, rs, rfl, ⟨a, xs, rfl, ha, hp⟩, ⟨hl, hok⟩, q⟩ := h
    have el : xs.length = rs.length := pr_len hp
    refine ⟨_, pss_cons (ps_for PassesOwn.never rfl (pi_enum (by rfl) T.enum (pa_cons (pe_slice sl_list (pv 0) po_none (po_some (pe_glob (v := .int 200) (by rfl) hm ⟨_, rfl⟩))) pa_nil))
          (pg_tup rfl (pgs_cons (pg_name (i := 1) sc_first_wrong.nd rfl (.inl rfl)) (pgs_cons (pg_name (i := 2) sc_first_wrong.nd rfl (.inl rfl)) pgs_nil)))
        (pss_one (ps_if (pt_not (pt_val (pe_call G1 hr (by rfl) g1 kp1 b1 .nil pass0 (pa_cons (pv 2) pa_nil)))) (pss_one (ps_ret (pv 1))) pss_nil)))
      (pss_one (ps_ret (pe_ifExp (pt_cmpR op_gt (pe_callB call_len (by rfl) T.len PySem.boot_len (pa_cons (pv 0) pa_nil)) (pe_glob (v := .int 200) (by rfl) hm ⟨_, rfl⟩) (nomark _))
        (pe_glob (v := .int 200) (by rfl) hm ⟨_, rfl⟩) pe_non))), ?_⟩
    refine ⟨_, rfl, 200, rfl, a, xs, rfl, SqL.of ha, fun p np => ?_⟩
    refine ⟨p, _, rfl, SqL.of upd_same, for_it (walk_enum (K := K) (a := p) (xs := cutV xs none (some 200))) (fun i σ H' => Same H H' ∧ SqL K H' p (cutV xs none (some 200)) ∧ ∃ x y, σ = [some (.ref a), x, y])
      ⟨same_upd np, SqL.of upd_same, none, none, rfl⟩ (fun _ _ _ _ h => h.2.1) ?_ ?_⟩
    · rintro i x σ H1 H2 hi ⟨s1, l1, x0, y0, rfl⟩ ⟨U, i', row, rfl, nU, rfl, ei, er⟩
      have s2 : Same H (upd H1 U (.tup [i', row])) := s1.trans (same_upd nU)
      obtain ⟨r, hr1, hr2⟩ := pr_mem hp (mem_cut er)
      refine ⟨U, _, rfl, SqT.of upd_same, rfl, i', [row], rfl, row, [], rfl, rfl, ?_⟩
      refine ⟨_, rfl, _, r, rfl, kRow.mono s2 hr2, hok r hr1, true, rfl, iteF ?_⟩
      exact ⟨s2, (same_upd nU).seq l1, _, _, rfl⟩
    · rintro σ H1 ⟨s1, l1, x0, y0, rfl⟩
      have la : H1 a = some (.lst xs) := s1 _ _ ha
      refine ⟨_, rfl, _, xs.length, rfl, .inl ⟨_, SqL.of la, rfl⟩, _, _, rfl, rfl, _, rfl, ?_⟩
      rw [decide_eq_false (show ¬ (xs.length : Int) > 200 by omega)]
      exact iteF (q _ s1)
theorem ok_check_rows {f : Addr} {fd : FuncData} (F : Fun K "check_rows" "check_rows" s_check_rows f fd) (CR : Cal P w K mg base 4 "first_wrong" ["rows"] spFirstWrong) : FnOk P w K mg base CX0 5 f fd ["rows"] spCheckRows := by
  obtain ⟨f1, fd1, G1, g1, kp1, b1⟩ := CR
  refine F.ok sc_check_rows (fun vs H Q E h => ?_) (fun cdv A outer s H vs Q E hr h => ?_)
  · obtain ⟨v, rs, rfl, _⟩ := h
    rfl
  · obtain ⟨v, rs, rfl, hv, hok, q⟩ := h
    refine ⟨_, pss_cons (ps_set (i := 1) sc_check_rows.nd rfl (.inl rfl) (pe_call G1 hr (by rfl) g1 kp1 b1 .nil pass0 (pa_cons (pv 0) pa_nil)))
      (pss_one (ps_if (pt_cmpR op_notN (pv 1) pe_non (nomark _)) (pss_one ps_never) pss_nil)), ?_⟩
    refine ⟨_, rfl, v, rs, rfl, hv, hok, fun H1 s1 => ?_⟩
    refine ⟨_, rfl, rfl, _, rfl, iteF ?_⟩
    exact q _ s1
end
end Rw
namespace Rw
open PySem L2
/-! ### a dict of points -/
structure DI (kvs : List (List Key × V)) (ps : List Pt) (g : Pt → Int) : Prop where
  keys : kvs.map (·.1) = ps.map kk
  nd : ps.Nodup
  val : ∀ p, valV kvs (kk p) = if p ∈ ps then some (.int (g p)) else none
theorem DI.nil (g : Pt → Int) : DI [] [] g := ⟨rfl, .nil, fun p => by simp [valV]⟩
theorem DI.put {kvs : List (List Key × V)} {ps : List Pt} {g : Pt → Int} (d : DI kvs ps g) (q : Pt) (z : Int) :
    ∃ ps', DI (putK kvs (kk q) (.int z)) ps' (fun p => if p = q then z else g p) ∧ (∀ p, p ∈ ps' ↔ p ∈ ps ∨ p = q) ∧ ps'.length ≤ ps.length + 1 := by
  have vals : ∀ p, valV (putK kvs (kk q) (.int z)) (kk p) = if p = q then some (.int z) else if p ∈ ps then some (.int (g p)) else none := fun p => by
    rw [valV_put]
    by_cases e : p = q
    · rw [if_pos (by rw [e]), if_pos e]
    · rw [if_neg (fun h => e (kk_inj h)), if_neg e, d.val p]
  by_cases m : q ∈ ps
  · refine ⟨ps, ⟨?_, d.nd, fun p => ?_⟩, fun p => ⟨.inl, fun h => h.elim id fun e => e ▸ m⟩, Nat.le_succ _⟩
    · have a : (kvs.any fun kv => decide (kv.1 = kk q)) = true := by rw [valV_any, d.val q, if_pos m]; rfl
      unfold putK
      rw [if_pos a, List.map_map, ← d.keys]
      refine List.map_congr_left fun kv _ => ?_
      by_cases e : kv.1 = kk q
      · simp only [Function.comp, if_pos e]
      · simp only [Function.comp, if_neg e]
    · rw [vals p]
      by_cases e : p = q
      · rw [if_pos e, if_pos (e ▸ m)]
        simp only [if_pos e]
      · simp only [if_neg e]
  · refine ⟨ps ++ [q], ⟨?_, ?_, fun p => ?_⟩, fun p => by simp, by simp⟩
    · rw [putK_new _ (by rw [d.val q, if_neg m]), List.map_append, List.map_append, d.keys]
      rfl
    · exact List.nodup_append.mpr ⟨d.nd, by simp, fun a ha b hb e => by rw [List.mem_singleton.mp hb] at e; exact m (e ▸ ha)⟩
    · rw [vals p]
      by_cases e : p = q
      · rw [if_pos e, if_pos (by rw [e]; simp)]
        simp only [if_pos e]
      · simp [e]
theorem putK_le (kvs : List (List Key × V)) (k : List Key) (v : V) : (putK kvs k v).length ≤ kvs.length + 1 := by
  unfold putK
  split
  · rw [List.length_map]; omega
  · rw [List.length_append]; simp
theorem DI.len {kvs : List (List Key × V)} {ps : List Pt} {g : Pt → Int} (d : DI kvs ps g) : kvs.length = ps.length := by
  have h := congrArg List.length d.keys
  rw [List.length_map, List.length_map] at h
  exact h
/-- what stands at a point, 0 where nothing does -/
theorem DI.get {kvs : List (List Key × V)} {ps : List Pt} {g : Pt → Int} (d : DI kvs ps g) (z : ∀ p, p ∉ ps → g p = 0) (p : Pt) : (valV kvs (kk p)).getD (.int 0) = .int (g p) := by
  rw [d.val p]
  by_cases m : p ∈ ps
  · rw [if_pos m]; rfl
  · rw [if_neg m, z p m]; rfl
theorem DI.congr {kvs : List (List Key × V)} {ps : List Pt} {g g' : Pt → Int} (d : DI kvs ps g) (h : ∀ p, g p = g' p) : DI kvs ps g' := by
  have e : g = g' := funext h
  rw [← e]; exact d
theorem chg_snoc (ws : List WRow) (r : Row) (z : Int) (p : Pt) : chg (ws ++ [(r, z)]) p = chg ws p + z * (ind (fstP r = p) - ind (endP r = p)) := by
  unfold chg
  rw [S_append]
  show _ + (z * (ind (fstP r = p) - ind (endP r = p)) + 0) = _
  omega
/-- what the program's dict of changes tells of weighed rows -/
structure ChD (kvs : List (List Key × V)) (ws : List WRow) : Prop where
  ex : ∃ ps : List Pt, DI kvs ps (chg ws) ∧ (∀ p, p ∉ ps → chg ws p = 0) ∧ Has ps ws ∧ ps.length ≤ 2 * ws.length
theorem ChD.nil : ChD [] [] := ⟨[], DI.nil _, fun _ _ => rfl, fun x h => absurd h (by simp), Nat.le_refl _⟩
/-- one row more: the two stores -/
theorem ChD.step {kvs : List (List Key × V)} {ws : List WRow} (c : ChD kvs ws) (r : Row) (z : Int) (hne : fstP r ≠ endP r) :
    ∃ v1 : Int, (valV kvs (kk (fstP r))).getD (.int 0) = .int v1 ∧ ∃ v2 : Int, (valV (putK kvs (kk (fstP r)) (.int (v1 + z))) (kk (endP r))).getD (.int 0) = .int v2 ∧
      ChD (putK (putK kvs (kk (fstP r)) (.int (v1 + z))) (kk (endP r)) (.int (v2 - z))) (ws ++ [(r, z)]) := by
  obtain ⟨ps, d, hz, hh, hl⟩ := c.ex
  refine ⟨chg ws (fstP r), d.get hz _, ?_⟩
  obtain ⟨ps1, d1, m1, l1⟩ := d.put (fstP r) (chg ws (fstP r) + z)
  have hz1 : ∀ p, p ∉ ps1 → (if p = fstP r then chg ws (fstP r) + z else chg ws p) = 0 := fun p hp => by
    have a : ¬ (p ∈ ps ∨ p = fstP r) := fun q => hp ((m1 p).mpr q)
    rw [if_neg fun e => a (.inr e)]
    exact hz p fun q => a (.inl q)
  have e2 : (if endP r = fstP r then chg ws (fstP r) + z else chg ws (endP r)) = chg ws (endP r) := if_neg fun e => hne e.symm
  refine ⟨chg ws (endP r), by rw [d1.get hz1, e2], ?_⟩
  obtain ⟨ps2, d2, m2, l2⟩ := d1.put (endP r) (chg ws (endP r) - z)
  have ev : ∀ p, (if p = endP r then chg ws (endP r) - z else if p = fstP r then chg ws (fstP r) + z else chg ws p) = chg (ws ++ [(r, z)]) p := fun p => by
    rw [chg_snoc]
    by_cases a : p = endP r
    · subst a
      rw [if_pos rfl, ind_pos (rfl : endP r = endP r), ind_neg hne]
      omega
    · rw [if_neg a, ind_neg (fun e => a e.symm : ¬ endP r = p)]
      by_cases b : p = fstP r
      · subst b
        rw [if_pos rfl, ind_pos (rfl : fstP r = fstP r)]
        omega
      · rw [if_neg b, ind_neg (fun e => b e.symm : ¬ fstP r = p)]
        omega
  refine ⟨ps2, d2.congr ev, fun p hp => ?_, fun x hx => ?_, ?_⟩
  · rw [← ev p]
    have a : ¬ (p ∈ ps1 ∨ p = endP r) := fun q => hp ((m2 p).mpr q)
    rw [if_neg fun e => a (.inr e)]
    exact hz1 p fun q => a (.inl q)
  · rcases List.mem_append.mp hx with hx | hx
    · obtain ⟨a, b⟩ := hh x hx
      exact ⟨(m2 _).mpr (.inl ((m1 _).mpr (.inl a))), (m2 _).mpr (.inl ((m1 _).mpr (.inl b)))⟩
    · rw [List.mem_singleton.mp hx]
      exact ⟨(m2 _).mpr (.inl ((m1 _).mpr (.inr rfl))), (m2 _).mpr (.inr rfl)⟩
  · rw [List.length_append, List.length_singleton]
    omega
def spChangesOf : Sp := fun vs H Q _ => ∃ (F : Hp) (v : V) (ws : List WRow), vs = [v] ∧ Same F H ∧ (kL kW).is F v ws ∧ Wok ws ∧ ws.length ≤ 1000000 ∧
  ∀ (H' : Hp) (d : Addr) (kvs : List (List Key × V)), Ext M0 F H F H' → H d = none → F d = none → H' d = some (.dT kvs) → ChD kvs ws → Q (.ref d) H'
section
variable {P : Program} {w : World} {K : PySem.W.Frag} {mg : Str → Option Value} {base : Heap}
theorem ok_changes_of {f : Addr} {fd : FuncData} (F0 : Fun K "changes_of" "changes_of" s_changes_of f fd) : FnOk P w K mg base CX0 1 f fd ["weighed"] spChangesOf := by
  refine F0.ok sc_changes_of (fun vs H Q E h => ?_) (fun cdv A outer s H vs Q E hr h => ?_)
  · obtain ⟨F, v, ws, rfl, _⟩ := h
    rfl
  · obtain ⟨F, v, ws, rfl, fh, ⟨a, xs, rfl, ha, hp⟩, hok, hlen, q⟩ := h
    have hu := hu_of hr
    refine ⟨_, pss_cons (ps_set (i := 1) sc_changes_of.nd rfl (.inl rfl) pe_dnewT)
      (pss_cons (ps_for PassesOwn.never rfl (pi_list (pv 0))
          (pg_tup rfl (pgs_cons (pg_tup rfl (pgs_cons (pg_name (i := 2) sc_changes_of.nd rfl (.inl rfl)) (pgs_cons (pg_name (i := 3) sc_changes_of.nd rfl (.inl rfl)) (pgs_cons (pg_name (i := 4) sc_changes_of.nd rfl (.inl rfl)) pgs_nil))))
            (pgs_cons (pg_name (i := 5) sc_changes_of.nd rfl (.inl rfl)) pgs_nil)))
        (pss_cons (ps_dput hu (pv 1) (pe_tup (pa_cons (pv 2) (pa_cons (pv 3) pa_nil))) (pe_op op_add (pe_dget2 hu (pv 1) (pe_tup (pa_cons (pv 2) (pa_cons (pv 3) pa_nil))) pe_int ⟨rfl, rfl, rfl, rfl⟩) (pv 5)) rfl)
          (pss_one (ps_dput hu (pv 1) (pe_tup (pa_cons (pv 2) (pa_cons (pe_op op_add (pv 4) pe_int) pa_nil))) (pe_op op_sub (pe_dget2 hu (pv 1) (pe_tup (pa_cons (pv 2) (pa_cons (pe_op op_add (pv 4) pe_int) pa_nil))) pe_int ⟨rfl, rfl, rfl, rfl⟩) (pv 5)) rfl))))
      (pss_one (ps_ret (pv 1)))), ?_⟩
    intro d nd
    have fd0 : F d = none := fh.free nd
    refine ⟨_, rfl, a, rfl, ⟨xs, SqL.of ((same_upd nd) _ _ (fh _ _ ha))⟩, for_list (K := K) (a := a) (xs := xs) (fun i σ H1 => ∃ kvs y2 y3 y4 y5, σ = [some (.ref a), some (.ref d), y2, y3, y4, y5] ∧ Ext M0 F H F H1 ∧ H1 d = some (.dT kvs) ∧ ChD kvs (ws.take i))
      ⟨[], none, none, none, none, rfl, (Ext.refl fh).put (.inl nd) fd0, upd_same, ChD.nil⟩ (fun i σ H1 _ ⟨_, _, _, _, _, _, X1, _, _⟩ => SqL.of (X1.fh _ _ ha)) ?_ ?_⟩
    · rintro i x σ H1 hi ⟨kvs, y2, y3, y4, y5, rfl, X1, hd, hc⟩
      obtain ⟨⟨r, z⟩, hri, t, u, rfl, ht, ⟨t2, rfl, ht2⟩⟩ := pr_get hp hi
      have hro := hok _ (List.mem_of_getElem? hri)
      have hne : fstP r ≠ endP r := fun e => by
        have e2 := congrArg Prod.snd e
        simp only [fstP, endP] at e2
        simp only at hro
        omega
      obtain ⟨v1, e1, v2, e2, hc2⟩ := hc.step r z hne
      have hlen2 : ∀ {kvs : List (List Key × V)} {n : Nat}, ChD kvs (ws.take n) → kvs.length < sizeLine - 2 := fun {kvs n} c => by
        obtain ⟨ps, dd, _, _, l⟩ := c.ex
        have l2 : (ws.take n).length ≤ ws.length := List.length_take_le' n ws
        rw [dd.len, sizeLine_eq]
        omega
      have hk := hlen2 hc
      refine ⟨t, _, rfl, SqT.of (X1.fh _ _ ht), rfl, _, _, rfl, t2, _, rfl, SqT.of (X1.fh _ _ ht2), rfl, _, _, rfl, _, _, rfl, _, _, rfl, rfl, _, _, rfl, rfl, ?_⟩
      -- changes[house, first] = changes.get((house, first), 0) + weight
      refine ⟨_, rfl, d, rfl, .inr ⟨kvs, .inl hd⟩, _, rfl, _, rfl, (by show 2 ≤ sizeLine; decide), fun k1 nk1 => ?_⟩
      have dk1 : d ≠ k1 := ne_of_none hd nk1
      have hd1 : upd H1 k1 (.tup [.int r.1, .int r.2.1]) d = some (.dT kvs) := by rw [upd_ne dk1]; exact hd
      refine ⟨_, DGet.t (k := kk (fstP r)) hd1 upd_same, _, rfl, v1, z, e1, rfl, _, rfl, _, rfl, _, rfl, (by show 2 ≤ sizeLine; decide), fun k2 nk2 => ?_⟩
      have dk2 : d ≠ k2 := ne_of_none hd1 nk2
      have hd2 : upd (upd H1 k1 (.tup [.int r.1, .int r.2.1])) k2 (.tup [.int r.1, .int r.2.1]) d = some (.dT kvs) := by rw [upd_ne dk2]; exact hd1
      refine ⟨d, _, rfl, DPut.t (k := kk (fstP r)) hd2 upd_same (by omega), ?_⟩
      have X2 := (((X1.tmp (o := .tup [.int r.1, .int r.2.1]) nk1).tmp (o := .tup [.int r.1, .int r.2.1]) nk2).put (o := .dT (putK kvs (kk (fstP r)) (.int (v1 + z)))) (.inl nd) fd0)
      have hd3 : upd (upd (upd H1 k1 (.tup [.int r.1, .int r.2.1])) k2 (.tup [.int r.1, .int r.2.1])) d (.dT (putK kvs (kk (fstP r)) (.int (v1 + z)))) d = some (.dT (putK kvs (kk (fstP r)) (.int (v1 + z)))) := upd_same
      revert hd3 X2
      generalize upd (upd (upd H1 k1 (.tup [.int r.1, .int r.2.1])) k2 (.tup [.int r.1, .int r.2.1])) d (.dT (putK kvs (kk (fstP r)) (.int (v1 + z)))) = H2
      intro X2 hd3
      -- changes[house, last + 1] = changes.get((house, last + 1), 0) - weight
      refine ⟨_, rfl, d, rfl, .inr ⟨_, .inl hd3⟩, _, rfl, _, rfl, _, _, rfl, rfl, (by show 2 ≤ sizeLine; decide), fun k3 nk3 => ?_⟩
      have dk3 : d ≠ k3 := ne_of_none hd3 nk3
      have hd4 : upd H2 k3 (.tup [.int r.1, .int (r.2.2 + 1)]) d = some (.dT (putK kvs (kk (fstP r)) (.int (v1 + z)))) := by rw [upd_ne dk3]; exact hd3
      refine ⟨_, DGet.t (k := kk (endP r)) hd4 upd_same, _, rfl, v2, z, e2, rfl, _, rfl, _, rfl, _, rfl, _, _, rfl, rfl, (by show 2 ≤ sizeLine; decide), fun k4 nk4 => ?_⟩
      have dk4 : d ≠ k4 := ne_of_none hd4 nk4
      have hd5 : upd (upd H2 k3 (.tup [.int r.1, .int (r.2.2 + 1)])) k4 (.tup [.int r.1, .int (r.2.2 + 1)]) d = some (.dT (putK kvs (kk (fstP r)) (.int (v1 + z)))) := by rw [upd_ne dk4]; exact hd4
      have lp : (putK kvs (kk (fstP r)) (.int (v1 + z))).length ≤ kvs.length + 1 := putK_le _ _ _
      refine ⟨d, _, rfl, DPut.t (k := kk (endP r)) hd5 upd_same (by omega), ?_⟩
      refine ⟨_, _, _, _, _, rfl, (((X2.tmp nk3).tmp nk4).put (.inl nd) fd0), upd_same, ?_⟩
      rw [List.take_add_one, hri]
      exact hc2
    · rintro σ H1 ⟨kvs, y2, y3, y4, y5, rfl, X1, hd, hc⟩
      refine ⟨_, rfl, q H1 d kvs X1 nd fd0 hd ?_⟩
      rw [pr_len hp, List.take_length] at hc
      exact hc
end
end Rw
namespace Rw
open PySem L2
theorem same_put {G H : Hp} {p : Addr} {o : HO} (s : Same G H) (g : G p = none) : Same G (upd H p o) := fun b u e => by
  rw [upd_ne (ne_of_none e g)]
  exact s b u e
/-- all but one place -/
def but (H : Hp) (o : Addr) : Hp := fun b => if b = o then none else H b
theorem but_same {H : Hp} {o : Addr} : Same (but H o) H := fun b u e => by
  unfold but at e
  by_cases h : b = o
  · rw [if_pos h] at e; cases e
  · rw [if_neg h] at e; exact e
theorem but_self {H : Hp} {o : Addr} : but H o o = none := if_pos rfl
theorem but_at {H : Hp} {o b : Addr} (h : b ≠ o) : but H o b = H b := if_neg h
theorem kPt_but {H : Hp} {o : Addr} {xs : List V} (ho : H o = some (.lst xs)) {v : V} {p : Pt} (h : kPt.is H v p) : kPt.is (but H o) v p := by
  obtain ⟨t, e, ht⟩ := h
  exact ⟨t, e, by rw [but_at (ne_of ht ho (by intro z; cases z))]; exact ht⟩
def sweepM (ws : List WRow) (least : Int) (ks : List Pt) : St := ks.foldl (stepM (chg ws) least) ⟨[], 0, 0⟩
theorem stepM_out (ch : Pt → Int) (least : Int) (s : St) (k : Pt) : (stepM ch least s k).out.length ≤ s.out.length + 1 := by
  unfold stepM
  split
  · exact Nat.le_succ _
  · split
    · simp
    · exact Nat.le_succ _
theorem sweepM_snoc (ws : List WRow) (least : Int) (ks : List Pt) (k : Pt) : sweepM ws least (ks ++ [k]) = stepM (chg ws) least (sweepM ws least ks) k := by
  unfold sweepM
  rw [List.foldl_append]
  rfl
theorem sweepM_len (ws : List WRow) (least : Int) (ks : List Pt) : (sweepM ws least ks).out.length ≤ ks.length := by
  have key : ∀ (ks : List Pt) (s : St), (ks.foldl (stepM (chg ws) least) s).out.length ≤ s.out.length + ks.length := by
    intro ks
    induction ks with
    | nil => intro s; exact Nat.le_refl _
    | cons k ks ih =>
      intro s
      have h1 := ih (stepM (chg ws) least s k)
      have h2 := stepM_out (chg ws) least s k
      rw [List.foldl_cons, List.length_cons]
      omega
  have h := key ks ⟨[], 0, 0⟩
  simp only [List.length_nil, Nat.zero_add] at h
  exact h
/-- what the sweep tells -/
structure Told (ws : List WRow) (least : Int) (out : List Row) : Prop where
  can : Canon out
  mem : ∀ p, mem out p ↔ least ≤ cover ws p
def spReaching : Sp := fun vs H Q _ => ∃ (F : Hp) (v : V) (ws : List WRow) (least : Int), vs = [v, .int least] ∧ Same F H ∧ (kL kW).is F v ws ∧ Wok ws ∧ ws.length ≤ 1000000 ∧ 0 < least ∧ RetL M0 F H kRow (Told ws least) Q
structure TxB (mg : Str → Option Value) : Prop where
  sorted : mg "sorted" = none
section
variable {P : Program} {w : World} {K : PySem.W.Frag} {mg : Str → Option Value} {base : Heap}
theorem ok_reaching {f : Addr} {fd : FuncData} (F0 : Fun K "reaching" "reaching" s_reaching f fd) (T : TxB mg) (CC : Cal P w K mg base 1 "changes_of" ["weighed"] spChangesOf) : FnOk P w K mg base CX0 2 f fd ["weighed", "least"] spReaching := by
  obtain ⟨f1, fd1, G1, g1, kp1, b1⟩ := CC
  refine F0.ok sc_reaching (fun vs H Q E h => ?_) (fun cdv A outer s H vs Q E hr h => ?_)
  · obtain ⟨F, v, ws, least, rfl, _⟩ := h
    rfl
  · obtain ⟨F, v, ws, least, rfl, fh, hv, hok, hlen, hle, q⟩ := h
    have hu := hu_of hr
    refine ⟨_, pss_cons (ps_set (i := 2) sc_reaching.nd rfl (.inl rfl) (pe_call G1 hr (by rfl) g1 kp1 b1 .nil pass0 (pa_cons (pv 0) pa_nil)))
      (pss_cons (ps_set (i := 3) sc_reaching.nd rfl (.inl rfl) (pe_lst pa_nil))
      (pss_cons (ps_set (i := 4) sc_reaching.nd rfl (.inl rfl) pe_int)
      (pss_cons (ps_set (i := 5) sc_reaching.nd rfl (.inl rfl) pe_int)
      (pss_cons (ps_for PassesOwn.never rfl (pi_list (pe_callB (cr_sortedDT (by rfl)) (by rfl) T.sorted (by decide +kernel) (pa_cons (pv 2) pa_nil)))
          (pg_tup rfl (pgs_cons (pg_name (i := 6) sc_reaching.nd rfl (.inl rfl)) (pgs_cons (pg_name (i := 7) sc_reaching.nd rfl (.inl rfl)) pgs_nil)))
        (pss_cons (ps_set (i := 8) sc_reaching.nd rfl (.inl rfl) (pv 4))
        (pss_cons (ps_set (i := 4) sc_reaching.nd rfl (.inl rfl) (pe_op op_add (pv 8) (pe_dget hu (pv 2) (pe_tup (pa_cons (pv 6) (pa_cons (pv 7) pa_nil))) (fun _ _ => rfl))))
        (pss_one (ps_if (pt_chain op_lt op_le (pv 8) (pv 1) (pv 4)) (pss_one (ps_set (i := 5) sc_reaching.nd rfl (.inl rfl) (pv 7)))
          (pss_one (ps_if (pt_chain op_lt op_le (pv 4) (pv 1) (pv 8))
            (pss_one (ps_expr (pe_bm PySem.F.plainAttrs_list PySem.F.slot_list_append PySem.F.type_list_append mt_append (pv 3) (pa_cons (pe_tup (pa_cons (pv 6) (pa_cons (pv 5) (pa_cons (pe_op op_sub (pv 7) pe_int) pa_nil)))) pa_nil)))) pss_nil)))))))
      (pss_one (ps_ret (pv 3))))))), ?_⟩
    refine ⟨_, rfl, F, v, ws, rfl, fh, hv, hok, hlen, fun H1 d kvs X1 nd fd hd hc => ?_⟩
    refine ⟨Nat.zero_le _, fun o no => ?_⟩
    have X2 := X1.tmp (o := .lst []) no
    have dno : d ≠ o := ne_of_none hd no
    have hd2 : upd H1 o (.lst []) d = some (.dT kvs) := by rw [upd_ne dno]; exact hd
    have ho2 : upd H1 o (.lst []) o = some (.lst []) := upd_same
    have Ho : H o = none := X1.free no
    have Fo : F o = none := X1.ffree no
    revert X2 hd2 ho2
    generalize upd H1 o (.lst []) = H2
    intro X2 hd2 ho2
    obtain ⟨ps, dd, hz, hh, hl⟩ := hc.ex
    refine ⟨_, rfl, d, kvs, ps, rfl, hd2, dd.keys, dd.nd, fun ys qs p hys hperm hsort np => ?_⟩
    have pno : o ≠ p := ne_of_none ho2 np
    have dnp : d ≠ p := ne_of_none hd2 np
    have X3 := X2.tmp (o := .lst ys) np
    have ho3 : upd H2 p (.lst ys) o = some (.lst []) := by rw [upd_ne pno]; exact ho2
    have hd3 : upd H2 p (.lst ys) d = some (.dT kvs) := by rw [upd_ne dnp]; exact hd2
    have hp3 : upd H2 p (.lst ys) p = some (.lst ys) := upd_same
    have hys3 : Paired (kPt.is (but (upd H2 p (.lst ys)) o)) ys qs := pr_mono (fun _ _ r => kPt_but ho3 (kPt.mono (same_upd np) r)) hys
    revert X3 ho3 hd3 hp3 hys3
    generalize upd H2 p (.lst ys) = H3
    intro X3 ho3 hd3 hp3 hys3
    have gd : but H3 o d = some (.dT kvs) := by rw [but_at dno]; exact hd3
    have gp : but H3 o p = some (.lst ys) := by rw [but_at pno.symm]; exact hp3
    have go : but H3 o o = none := but_self
    have gs : Same (but H3 o) H3 := but_same
    revert gd gp go gs hys3
    generalize but H3 o = G
    intro hys3 gd gp go gs
    have lq : qs.length ≤ 2 * ws.length := by rw [hperm.length_eq]; exact hl
    refine ⟨p, rfl, ⟨ys, SqL.of (gs _ _ gp)⟩, for_list (K := K) (a := p) (xs := ys) (fun i σ H' => ∃ F' outs y6 y7 y8, σ = [some v, some (.int least), some (.ref d), some (.ref o), some (.int (sweepM ws least (qs.take i)).total), some (.int (sweepM ws least (qs.take i)).start), y6, y7, y8] ∧
        Ext M0 F H F' H' ∧ Same G H' ∧ F' o = none ∧ H' o = some (.lst outs) ∧ Paired (kRow.is F') outs (sweepM ws least (qs.take i)).out)
      ⟨F, [], none, none, none, rfl, X3, gs, Fo, ho3, .nil⟩ (fun i σ H' _ ⟨_, _, _, _, _, _, _, s1, _⟩ => SqL.of (s1 _ _ gp)) ?_ ?_⟩
    · rintro i x σ H' hi ⟨F', outs, y6, y7, y8, rfl, X4, s4, fo, hout, hpr⟩
      obtain ⟨k, hk, t, rfl, ht⟩ := pr_get hys3 hi
      have kps : k ∈ ps := hperm.mem_iff.mp (List.mem_of_getElem? hk)
      have hval : valV kvs (kk k) = some (.int (chg ws k)) := by rw [dd.val k, if_pos kps]
      have hst : sweepM ws least (qs.take (i + 1)) = stepM (chg ws) least (sweepM ws least (qs.take i)) k := by
        rw [List.take_add_one, hk, ← sweepM_snoc]
        rfl
      have hlo : outs.length ≤ 2 * ws.length := by
        have h1 := sweepM_len ws least (qs.take i)
        have h2 : (qs.take i).length ≤ qs.length := List.length_take_le' i qs
        rw [pr_len hpr]
        omega
      revert hpr hst
      generalize sweepM ws least (qs.take i) = st
      intro hpr hst
      refine ⟨t, _, rfl, SqT.of (s4 _ _ ht), rfl, _, _, rfl, _, _, rfl, rfl, ?_⟩
      refine ⟨_, rfl, _, rfl, _, rfl, _, rfl, _, rfl, (by show 2 ≤ sizeLine; decide), fun k1 nk1 => ?_⟩
      have hd4 : H' d = some (.dT kvs) := s4 _ _ gd
      have dk1 : d ≠ k1 := ne_of_none hd4 nk1
      have ok1 : o ≠ k1 := ne_of_none hout nk1
      have e5 : upd H' k1 (.tup [.int k.1, .int k.2]) d = some (.dT kvs) := by rw [upd_ne dk1]; exact hd4
      refine ⟨d, _, rfl, hval ▸ DGet.t (k := kk k) e5 upd_same, _, _, rfl, rfl, ?_⟩
      have X5 := X4.tmp (o := .tup [.int k.1, .int k.2]) nk1
      have s5 : Same G (upd H' k1 (.tup [.int k.1, .int k.2])) := s4.trans (same_upd nk1)
      have ho5 : upd H' k1 (.tup [.int k.1, .int k.2]) o = some (.lst outs) := by rw [upd_ne ok1]; exact hout
      revert X5 s5 ho5
      generalize upd H' k1 (.tup [.int k.1, .int k.2]) = H5
      intro X5 s5 ho5
      by_cases c1 : st.total < least
      · by_cases c2 : least ≤ st.total + chg ws k
        · have es : sweepM ws least (qs.take (i + 1)) = ⟨st.out, st.total + chg ws k, k.2⟩ := by rw [hst]; unfold stepM; rw [if_pos ⟨c1, c2⟩]
          refine ⟨_, rfl, _, rfl, _, _, rfl, rfl, _, rfl, ?_⟩
          rw [decide_eq_true c1]
          refine iteT ⟨_, rfl, _, _, rfl, rfl, _, rfl, ?_⟩
          rw [decide_eq_true c2]
          refine iteT ⟨_, rfl, F', outs, some (.int k.1), some (.int k.2), some (.int st.total), ?_, X5, s5, fo, ho5, ?_⟩
          · rw [es]; rfl
          · rw [es]; exact hpr
        · have es : sweepM ws least (qs.take (i + 1)) = ⟨st.out, st.total + chg ws k, st.start⟩ := by
            rw [hst]; unfold stepM; rw [if_neg (fun z => c2 z.2), if_neg (fun z => absurd z.2 (by omega))]
          refine ⟨_, rfl, _, rfl, _, _, rfl, rfl, _, rfl, ?_⟩
          rw [decide_eq_true c1]
          refine iteT ⟨_, rfl, _, _, rfl, rfl, _, rfl, ?_⟩
          rw [decide_eq_false c2]
          refine iteF ⟨_, rfl, _, rfl, _, _, rfl, rfl, _, rfl, ?_⟩
          rw [decide_eq_true (show st.total + chg ws k < least by omega)]
          refine iteT ⟨_, rfl, _, _, rfl, rfl, _, rfl, ?_⟩
          rw [decide_eq_false (show ¬ least ≤ st.total by omega)]
          refine iteF ⟨F', outs, some (.int k.1), some (.int k.2), some (.int st.total), ?_, X5, s5, fo, ho5, ?_⟩
          · rw [es]; rfl
          · rw [es]; exact hpr
      · by_cases c2 : st.total + chg ws k < least
        · have es : sweepM ws least (qs.take (i + 1)) = ⟨st.out ++ [(k.1, st.start, k.2 - 1)], st.total + chg ws k, st.start⟩ := by
            rw [hst]; unfold stepM; rw [if_neg (fun z => c1 z.1), if_pos ⟨c2, by omega⟩]
          refine ⟨_, rfl, _, rfl, _, _, rfl, rfl, _, rfl, ?_⟩
          rw [decide_eq_false c1]
          refine iteF ⟨_, rfl, iteF ⟨_, rfl, _, rfl, _, _, rfl, rfl, _, rfl, ?_⟩⟩
          rw [decide_eq_true c2]
          refine iteT ⟨_, rfl, _, _, rfl, rfl, _, rfl, ?_⟩
          rw [decide_eq_true (show least ≤ st.total by omega)]
          refine iteT ⟨_, rfl, .inl ⟨rfl, _, SqL.of ho5⟩, _, rfl, _, rfl, _, rfl, _, _, rfl, rfl, (by show 3 ≤ sizeLine; decide), fun t6 nt6 => ?_⟩
          have ot6 : o ≠ t6 := ne_of_none ho5 nt6
          refine ⟨o, outs, _, rfl, rfl, by rw [upd_ne ot6]; exact ho5, by rw [sizeLine_eq]; omega, ?_⟩
          have fo6 : upd F' t6 (.tup [.int k.1, .int st.start, .int (k.2 - 1)]) o = none := by rw [upd_ne ot6]; exact fo
          refine ⟨upd F' t6 (.tup [.int k.1, .int st.start, .int (k.2 - 1)]), outs ++ [.ref t6], some (.int k.1), some (.int k.2), some (.int st.total), ?_, (X5.lay nt6).put (.inl Ho) fo6, same_put (s5.trans (same_upd nt6)) go, fo6, upd_same, ?_⟩
          · rw [es]; rfl
          · rw [es]
            exact pr_snoc (pr_mono (fun _ _ r => kRow.mono (same_upd (X5.ffree nt6)) r) hpr) ⟨t6, rfl, upd_same⟩
        · have es : sweepM ws least (qs.take (i + 1)) = ⟨st.out, st.total + chg ws k, st.start⟩ := by
            rw [hst]; unfold stepM; rw [if_neg (fun z => c1 z.1), if_neg (fun z => c2 z.1)]
          refine ⟨_, rfl, _, rfl, _, _, rfl, rfl, _, rfl, ?_⟩
          rw [decide_eq_false c1]
          refine iteF ⟨_, rfl, iteF ⟨_, rfl, _, rfl, _, _, rfl, rfl, _, rfl, ?_⟩⟩
          rw [decide_eq_false c2]
          refine iteF ⟨_, rfl, iteF ⟨F', outs, some (.int k.1), some (.int k.2), some (.int st.total), ?_, X5, s5, fo, ho5, ?_⟩⟩
          · rw [es]; rfl
          · rw [es]; exact hpr
    · rintro σ H' ⟨F', outs, y6, y7, y8, rfl, X4, s4, fo, hout, hpr⟩
      rw [pr_len hys3, List.take_length] at hpr
      obtain ⟨a1, a2⟩ := sweep hle hok hsort (fun x hx => ⟨hperm.mem_iff.mpr (hh x hx).1, hperm.mem_iff.mpr (hh x hx).2⟩) 0
      refine ⟨_, rfl, q F' H' o outs _ X4 Ho fo hout hpr ⟨a1, a2⟩⟩
end
end Rw
namespace Rw
open PySem L2
/-! ### how long what is told can be; its rows are rows -/
theorem nodup_sub {α : Type} [DecidableEq α] : ∀ (l D : List α), l.Nodup → (∀ x ∈ l, x ∈ D) → l.length ≤ D.length
  | [], _, _, _ => Nat.zero_le _
  | x :: l, D, hn, h => by
    have h1 := List.nodup_cons.mp hn
    have hx := h x List.mem_cons_self
    have ih := nodup_sub l (D.erase x) h1.2 fun y hy => by
      have ne : y ≠ x := fun e => h1.1 (e ▸ hy)
      exact (List.mem_erase_of_ne ne).mpr (h y (List.mem_cons_of_mem _ hy))
    rw [List.length_erase_of_mem hx] at ih
    have : 0 < D.length := List.length_pos_of_mem hx
    rw [List.length_cons]
    omega
theorem S_drop {f g : Row → Int} : ∀ {ws : List WRow}, S f ws < S g ws → ∃ x ∈ ws, x.2 * f x.1 < x.2 * g x.1
  | [], h => by simp [S] at h
  | (r, w) :: ws, h => by
    by_cases c : w * f r < w * g r
    · exact ⟨_, List.mem_cons_self, c⟩
    · have h' : w * f r + S f ws < w * g r + S g ws := h
      obtain ⟨x, hx, e⟩ := S_drop (f := f) (g := g) (ws := ws) (by omega)
      exact ⟨x, List.mem_cons_of_mem _ hx, e⟩
/-- where a weighed row can end a told one -/
def stopP (x : WRow) : Pt := if 0 < x.2 then endP x.1 else fstP x.1
theorem Canon.ends {out : List Row} (c : Canon out) : (out.map endP).Nodup := by
  refine List.pairwise_map.mpr (c.ord.imp_of_mem fun {r s} hr hs b e => ?_)
  have o := c.ok s hs
  have e1 := congrArg Prod.fst e
  have e2 := congrArg Prod.snd e
  unfold endP at e1 e2
  simp only at e1 e2
  unfold before at b
  omega
theorem Canon.gap {out : List Row} (c : Canon out) {r : Row} (hr : r ∈ out) : ¬ mem out (endP r) := by
  rintro ⟨s, hs, i1, i2, i3⟩
  unfold endP at i1 i2 i3
  simp only at i1 i2 i3
  rcases Classical.em (r = s) with e | e
  · subst e; omega
  · have key : before r s ∨ before s r := by
      obtain ⟨i, hi, ei⟩ := List.getElem_of_mem hr
      obtain ⟨j, hj, ej⟩ := List.getElem_of_mem hs
      have p := List.pairwise_iff_getElem.mp c.ord
      rcases Nat.lt_trichotomy i j with l | l | l
      · exact .inl (by have := p i j hi hj l; rw [ei, ej] at this; exact this)
      · subst l; exact absurd (ei.symm.trans ej) e
      · exact .inr (by have := p j i hj hi l; rw [ei, ej] at this; exact this)
    have o := c.ok r hr
    have o2 := c.ok s hs
    unfold before at key
    omega
theorem Canon.last {out : List Row} (c : Canon out) {r : Row} (hr : r ∈ out) : mem out (r.1, r.2.2) := ⟨r, hr, rfl, c.ok r hr, Int.le_refl _⟩
theorem Canon.first {out : List Row} (c : Canon out) {r : Row} (hr : r ∈ out) : mem out (r.1, r.2.1) := ⟨r, hr, rfl, Int.le_refl _, c.ok r hr⟩
theorem Told.len {ws : List WRow} {least : Int} {out : List Row} (t : Told ws least out) : out.length ≤ ws.length := by
  have h := nodup_sub (out.map endP) (ws.map stopP) t.can.ends fun p hp => by
    obtain ⟨r, hr, rfl⟩ := List.mem_map.mp hp
    have a := (t.mem _).mp (t.can.last hr)
    have b : ¬ least ≤ cover ws (endP r) := fun z => t.can.gap hr ((t.mem _).mpr z)
    obtain ⟨x, hx, e⟩ := S_drop (f := fun s => ind (inRow s (endP r))) (g := fun s => ind (inRow s (r.1, r.2.2))) (ws := ws) (by unfold cover at a b; omega)
    refine List.mem_map.mpr ⟨x, hx, ?_⟩
    obtain ⟨s, w⟩ := x
    simp only at e
    unfold stopP
    rcases ind_or (inRow s (endP r)) with ⟨u1, e1⟩ | ⟨u1, e1⟩ <;> rcases ind_or (inRow s (r.1, r.2.2)) with ⟨u2, e2⟩ | ⟨u2, e2⟩ <;> rw [e1, e2] at e
    · omega
    · rw [if_neg (show ¬ 0 < w by omega)]
      unfold inRow endP at u1
      unfold inRow at u2
      unfold fstP endP
      simp only at u1 u2 ⊢
      exact Prod.ext (by simp only; omega) (by simp only; omega)
    · rw [if_pos (show 0 < w by omega)]
      unfold inRow endP at u1
      unfold inRow at u2
      unfold endP
      simp only at u1 u2 ⊢
      exact Prod.ext (by simp only; omega) (by simp only; omega)
    · omega
  rw [List.length_map, List.length_map] at h
  exact h
def InBox (p : Pt) : Prop := 0 ≤ p.1 ∧ p.1 ≤ 7 ∧ 1 ≤ p.2 ∧ p.2 ≤ LIM
theorem RowOk.box {r : Row} (h : RowOk r) {p : Pt} (i : inRow r p) : InBox p := by
  obtain ⟨a, b, c, d, e⟩ := h
  obtain ⟨i1, i2, i3⟩ := i
  unfold InBox
  omega
theorem rows_box {rs : List Row} (h : ∀ r ∈ rs, RowOk r) {p : Pt} (m : mem rs p) : InBox p := by
  obtain ⟨r, hr, i⟩ := m
  exact (h r hr).box i
theorem canon_ok {out : List Row} (c : Canon out) (h : ∀ p, mem out p → InBox p) : ∀ r ∈ out, RowOk r := fun r hr => by
  have a := h _ (c.last hr)
  have b := h _ (c.first hr)
  have o := c.ok r hr
  unfold InBox at a b
  unfold RowOk
  simp only at a b
  omega
/-! ### what the sums come to -/
def once (rs : List Row) : List WRow := rs.map fun r => (r, 1)
theorem cover_once (rs : List Row) (p : Pt) : 0 ≤ cover (once rs) p ∧ (1 ≤ cover (once rs) p ↔ mem rs p) := by
  induction rs with
  | nil => exact ⟨Int.le_refl _, fun h => absurd h (by show ¬ (1 : Int) ≤ 0; omega), fun h => absurd h mem_nil⟩
  | cons r rs ih =>
    have e : cover (once (r :: rs)) p = 1 * ind (inRow r p) + cover (once rs) p := rfl
    rw [e, mem_cons]
    rcases ind_or (inRow r p) with ⟨u, eu⟩ | ⟨u, eu⟩ <;> rw [eu]
    · exact ⟨by omega, fun _ => .inl u, fun _ => by omega⟩
    · refine ⟨by omega, fun h => .inr (ih.2.mp (by omega)), fun h => ?_⟩
      have := ih.2.mpr (h.resolve_left u)
      omega
instance (rs : List Row) (p : Pt) : Decidable (mem rs p) := by unfold mem; infer_instance
/-- of a canonical list each point is covered at most once -/
theorem cover_canon {rs : List Row} (c : Canon rs) (p : Pt) : cover (once rs) p = ind (mem rs p) := by
  induction rs with
  | nil => exact (ind_neg mem_nil).symm
  | cons r rs ih =>
    have e : cover (once (r :: rs)) p = 1 * ind (inRow r p) + cover (once rs) p := rfl
    rw [e, ih c.tail]
    rcases ind_or (inRow r p) with ⟨u, eu⟩ | ⟨u, eu⟩ <;> rw [eu]
    · have n : ¬ mem rs p := fun m => by
        have := c.later m
        obtain ⟨i1, i2, i3⟩ := u
        omega
      rw [ind_neg n, ind_pos (mem_cons.mpr (.inl u))]
      omega
    · by_cases m : mem rs p
      · rw [ind_pos m, ind_pos (mem_cons.mpr (.inr m))]; omega
      · rw [ind_neg m, ind_neg (fun z => (mem_cons.mp z).elim u m)]; omega
end Rw
namespace Rw
open PySem L2
/-! ### loops of comprehensions, by a walk -/
theorem it_by {J : It} {n : Nat} {G : Hp → Prop} {Y : Nat → Hp → V → Hp → Prop} (w : Walk J n G Y) {B : (Hp → Prop) → V → Hp → Prop} {H0 : Hp} {Qd : Hp → Prop} (Pv : Nat → Hp → Prop) (h0 : Pv 0 H0)
    (hG : ∀ i H, i ≤ n → Pv i H → G H) (hs : ∀ i x H H', i < n → Pv i H → Y i H x H' → B (Pv (i + 1)) x H') (hd : ∀ H, Pv n H → Qd H) :
    ∃ W : Nat → Nat → Hp → Prop, (∃ m, W 0 m H0) ∧ ∀ i m H, W i m H →
      (J.stop i H ∧ Qd H) ∨ (J.go i H ∧ ∃ Nx : Hp → Prop, (∀ H', Nx H' → ∃ m', m' < m ∧ W (i + 1) m' H') ∧ ∀ x H', J.yld i H x H' → B Nx x H') := by
  refine ⟨fun i m H => m = n - i ∧ i ≤ n ∧ Pv i H, ⟨n, by simp, Nat.zero_le _, h0⟩, ?_⟩
  rintro i m H ⟨rfl, hi, p⟩
  have g := hG i H hi p
  by_cases c : i < n
  · exact .inr ⟨w.goes i H c g, Pv (i + 1), fun H' p' => ⟨n - (i + 1), by omega, rfl, c, p'⟩, fun x H' y => hs i x H H' c p (w.yields i H x H' c g y)⟩
  · obtain rfl : i = n := by omega
    exact .inl ⟨w.stops H g, hd H p⟩
theorem RetL.step {α : Type} {M : Addr → Prop} {F H F1 H1 : Hp} {k : Kd α} {φ ψ : List α → Prop} {Q : VK} (X : Ext M F H F1 H1) (q : RetL M F H k ψ Q) (h : ∀ xs, φ xs → ψ xs) : RetL M0 F1 H1 k φ Q :=
  fun F' H' a vs xs X' ha fa hl hp hx => q F' H' a vs xs (X.trans X'.up) (X.free ha) fa hl hp (h xs hx)
/-- how many of some sets hold a point -/
def cnt : List (List Row) → Pt → Int
  | [], _ => 0
  | rs :: sets, p => ind (mem rs p) + cnt sets p
def total : List (List Row) → Nat
  | [] => 0
  | rs :: sets => rs.length + total sets
theorem cnt_snoc (p : Pt) (rs : List Row) : ∀ sets : List (List Row), cnt (sets ++ [rs]) p = cnt sets p + ind (mem rs p)
  | [] => by show ind _ + 0 = 0 + ind _; omega
  | x :: sets => by
    show ind _ + cnt (sets ++ [rs]) p = ind _ + cnt sets p + ind _
    rw [cnt_snoc p rs sets]; omega
theorem total_snoc (rs : List Row) : ∀ sets : List (List Row), total (sets ++ [rs]) = total sets + rs.length
  | [] => by show rs.length + 0 = 0 + rs.length; omega
  | x :: sets => by
    show x.length + total (sets ++ [rs]) = x.length + total sets + rs.length
    rw [total_snoc rs sets]; omega
theorem total_take (sets : List (List Row)) (i : Nat) : total (sets.take i) ≤ total sets := by
  induction sets generalizing i with
  | nil => simp [total]
  | cons x sets ih =>
    cases i with
    | zero => simp [total]
    | succ i =>
      have := ih i
      show x.length + total (sets.take i) ≤ x.length + total sets
      omega
def Valid (rs : List Row) : Prop := ∀ r ∈ rs, r.2.1 ≤ r.2.2
theorem wok_once {rs : List Row} (h : Valid rs) : Wok (once rs) := fun x hx => by
  obtain ⟨r, hr, rfl⟩ := List.mem_map.mp hx
  exact h r hr
structure Fewest (rs out : List Row) : Prop where
  can : Canon out
  mem : ∀ p, mem out p ↔ mem rs p
  len : out.length ≤ rs.length
def spFewest : Sp := fun vs H Q _ => ∃ (F : Hp) (v : V) (rs : List Row), vs = [v] ∧ Same F H ∧ (kL kRow).is F v rs ∧ Valid rs ∧ rs.length ≤ 100000 ∧ RetL M0 F H kRow (Fewest rs) Q
structure Held (sets : List (List Row)) (least : Int) (out : List Row) : Prop where
  can : Canon out
  mem : ∀ p, mem out p ↔ least ≤ cnt sets p
  len : out.length ≤ total sets
def spHeld : Sp := fun vs H Q _ => ∃ (F : Hp) (v : V) (sets : List (List Row)) (least : Int), vs = [v, .int least] ∧ Same F H ∧ (kL (kL kRow)).is F v sets ∧ (∀ rs ∈ sets, Valid rs) ∧ total sets ≤ 100000 ∧ 0 < least ∧ RetL M0 F H kRow (Held sets least) Q
structure Without (one other out : List Row) : Prop where
  can : Canon out
  mem : ∀ p, mem out p ↔ mem one p ∧ ¬ mem other p
  len : out.length ≤ one.length + other.length
def spWithout : Sp := fun vs H Q _ => ∃ (F : Hp) (v u : V) (one other : List Row), vs = [v, u] ∧ Same F H ∧ (kL kRow).is F v one ∧ (kL kRow).is F u other ∧ Valid one ∧ Valid other ∧ one.length ≤ 50000 ∧ other.length ≤ 50000 ∧ RetL M0 F H kRow (Without one other) Q
theorem once_len (rs : List Row) : (once rs).length = rs.length := List.length_map ..
theorem told_fewest {rs out : List Row} (t : Told (once rs) 1 out) : Fewest rs out := ⟨t.can, fun p => (t.mem p).trans (cover_once rs p).2, by have := t.len; rw [once_len] at this; exact this⟩
section
variable {P : Program} {w : World} {K : PySem.W.Frag} {mg : Str → Option Value} {base : Heap}
theorem ok_fewest {f : Addr} {fd : FuncData} (F0 : Fun K "fewest" "fewest" s_fewest f fd) (CR : Cal P w K mg base 2 "reaching" ["weighed", "least"] spReaching) : FnOk P w K mg base CX0 3 f fd ["rows"] spFewest := by
  obtain ⟨f1, fd1, G1, g1, kp1, b1⟩ := CR
  refine F0.ok sc_fewest (fun vs H Q E h => ?_) (fun cdv A outer s H vs Q E hr h => ?_)
  · obtain ⟨F, v, rs, rfl, _⟩ := h
    rfl
  · obtain ⟨F, v, rs, rfl, fh, ⟨a, xs, rfl, ha, hp⟩, hval, hlen, q⟩ := h
    refine ⟨_, pss_one (ps_ret (pe_call G1 hr (by rfl) g1 kp1 b1 .nil pass0 (pa_cons (pe_lc (own := [("row", 1)]) (g := gName 1) (tt := tYes) (by rfl) sc_fewest.nd (pi_list (pv 0))
      (blkOk_by (own := [("row", 1)]) (N := ["rows", "row"]) (sc := defScope s_fewest) (by decide +kernel)) (fun _ _ _ _ _ => pg_name (i := 1) sc_fewest.nd rfl (Or.inl rfl)) (fun _ _ _ _ _ => pts_nil)
      (fun _ _ _ _ _ => pe_tup (pa_cons (pv 1) (pa_cons pe_int pa_nil)))) (pa_cons pe_int pa_nil)))), ?_⟩
    refine ⟨_, rfl, a, rfl, ⟨_, SqL.of (fh _ _ ha)⟩, fun D nD => ?_⟩
    have fD : F D = none := fh.free nD
    refine it_by (walk_list (K := K) (a := a) (xs := xs)) (fun i H' => ∃ F' acc, Ext M0 F H F' H' ∧ H' D = some (.lst acc) ∧ F' D = none ∧ Paired (kW.is F') acc (once (rs.take i)))
      ⟨F, [], (Ext.refl fh).tmp nD, upd_same, fD, .nil⟩ (fun i H' _ ⟨_, _, X1, _⟩ => SqL.of (X1.fh _ _ (X1.ff _ _ ha))) ?_ ?_
    · rintro i x H1 _ hi ⟨F', acc, X1, hD, fD', hacc⟩ ⟨rfl, hx⟩
      obtain ⟨r, hri, hr1⟩ := pr_get hp hx
      refine ⟨rfl, ?_⟩
      refine ⟨_, rfl, (by show 2 ≤ sizeLine; decide), fun t nt => ?_⟩
      have Dt : D ≠ t := ne_of_none hD nt
      have la : acc.length ≤ rs.length := by rw [pr_len hacc, once_len]; exact List.length_take_le' i rs
      refine ⟨acc, by rw [upd_ne Dt]; exact hD, by rw [sizeLine_eq]; omega, ?_⟩
      have fD2 : upd F' t (.tup [x, .int 1]) D = none := by rw [upd_ne Dt]; exact fD'
      refine ⟨upd F' t (.tup [x, .int 1]), acc ++ [.ref t], (X1.lay nt).put (.inl nD) fD2, upd_same, fD2, ?_⟩
      rw [List.take_add_one, hri]
      have e : once (rs.take i ++ [r]) = once (rs.take i) ++ [(r, 1)] := List.map_append ..
      show Paired _ _ (once (rs.take i ++ [r]))
      rw [e]
      have sm : Same F' (upd F' t (.tup [x, .int 1])) := same_upd (X1.ffree nt)
      exact pr_snoc (pr_mono (fun _ _ z => kW.mono sm z) hacc) ⟨t, x, rfl, upd_same, kRow.mono (X1.ff.trans sm) hr1⟩
    · rintro H1 ⟨F', acc, X1, hD, fD', hacc⟩
      rw [pr_len hp, List.take_length] at hacc
      have X2 := X1.frz nD fD' hD
      refine ⟨upd F' D (.lst acc), .ref D, once rs, 1, rfl, X2.fh, kL_new fD' hacc, wok_once hval, by rw [once_len]; omega, by decide, RetL.step X2 q fun out t => told_fewest t⟩
end
end Rw
namespace Rw
open PySem L2
theorem kLL_get {α : Type} {k : Kd α} {F : Hp} {vs : List V} {xss : List (List α)} {i : Nat} {v : V} (h : Paired ((kL k).is F) vs xss) (e : vs[i]? = some v) : ∃ xs, xss[i]? = some xs ∧ (kL k).is F v xs := pr_get h e
theorem cover_append (as bs : List WRow) (p : Pt) : cover (as ++ bs) p = cover as p + cover bs p := S_append _ as bs
theorem wok_append {as bs : List WRow} (h : Wok as) (h' : Wok bs) : Wok (as ++ bs) := fun x hx => (List.mem_append.mp hx).elim (h x) (h' x)
theorem once_snoc (rs : List Row) (r : Row) : once (rs ++ [r]) = once rs ++ [(r, 1)] := List.map_append ..
theorem valid_canon {rs : List Row} (c : Canon rs) : Valid rs := c.ok
def anti (rs : List Row) : List WRow := rs.map fun r => (r, -1)
theorem cover_anti (rs : List Row) (p : Pt) : cover (anti rs) p = - cover (once rs) p := by
  induction rs with
  | nil => rfl
  | cons r rs ih =>
    have e1 : cover (anti (r :: rs)) p = -1 * ind (inRow r p) + cover (anti rs) p := rfl
    have e2 : cover (once (r :: rs)) p = 1 * ind (inRow r p) + cover (once rs) p := rfl
    rw [e1, e2, ih]; omega
theorem wok_anti {rs : List Row} (h : Valid rs) : Wok (anti rs) := fun x hx => by
  obtain ⟨r, hr, rfl⟩ := List.mem_map.mp hx
  exact h r hr
theorem told_without {one other kept out : List Row} (k : Fewest one kept) (t : Told (once kept ++ anti other) 1 out) : Without one other out := by
  refine ⟨t.can, fun p => ?_, ?_⟩
  · rw [t.mem p, cover_append, cover_anti, cover_canon k.can, ← k.mem p]
    have c := cover_once other p
    rcases ind_or (mem kept p) with ⟨u, eu⟩ | ⟨u, eu⟩ <;> rw [eu]
    · constructor
      · intro h; exact ⟨u, fun z => by have := c.2.mpr z; omega⟩
      · intro h
        have : ¬ 1 ≤ cover (once other) p := fun z => h.2 (c.2.mp z)
        omega
    · exact ⟨fun h => by omega, fun h => absurd h.1 u⟩
  · have h := t.len
    rw [List.length_append, once_len] at h
    have e : (anti other).length = other.length := List.length_map ..
    have := k.len
    omega
section
variable {P : Program} {w : World} {K : PySem.W.Frag} {mg : Str → Option Value} {base : Heap}
theorem ok_held_by_many {f : Addr} {fd : FuncData} (F0 : Fun K "held_by_many" "held_by_many" s_held_by_many f fd) (CR : Cal P w K mg base 2 "reaching" ["weighed", "least"] spReaching) (CF : Cal P w K mg base 3 "fewest" ["rows"] spFewest) :
    FnOk P w K mg base CX0 4 f fd ["sets", "least"] spHeld := by
  obtain ⟨f1, fd1, G1, g1, kp1, b1⟩ := CR
  obtain ⟨f2, fd2, G2, g2, kp2, b2⟩ := CF
  refine F0.ok sc_held_by_many (fun vs H Q E h => ?_) (fun cdv A outer s H vs Q E hr h => ?_)
  · obtain ⟨F, v, sets, least, rfl, _⟩ := h
    rfl
  · obtain ⟨F, v, sets, least, rfl, fh, ⟨a, xs, rfl, ha, hp⟩, hval, hlen, hle, q⟩ := h
    have hr1 : Room 2 _ := hr.mono (by decide)
    refine ⟨_, pss_one (ps_ret (pe_call G1 hr1 (by rfl) g1 kp1 b1 .nil pass0 (pa_cons (pe_lc2 (own := [("rows", 2), ("row", 3)]) (g := gName 2) (tt := tYes) (wi1 := iList K (tCall spFewest [] E0 (tCons (tVar 2) tNil))) (g1 := gName 3) (tt1 := tYes) (vs1 := [3]) (by rfl) sc_held_by_many.nd (pi_list (pv 0))
      (blkOk_by (own := [("rows", 2), ("row", 3)]) (N := ["sets", "least", "rows", "row"]) (sc := defScope s_held_by_many) (by decide +kernel)) (by decide)
      (fun _ _ _ _ _ => pg_name (i := 2) sc_held_by_many.nd rfl (Or.inl rfl)) (fun _ _ _ _ _ => pts_nil)
      (fun _ _ _ _ _ => pi_list (pe_call G2 hr (by rfl) g2 kp2 b2 .nil pass0 (pa_cons (pv 2) pa_nil)))
      (fun _ _ _ _ _ => pg_name (i := 3) sc_held_by_many.nd rfl (Or.inl rfl)) (fun _ _ _ _ _ => pts_nil)
      (fun _ _ _ _ _ => pe_tup (pa_cons (pv 3) (pa_cons pe_int pa_nil)))) (pa_cons (pv 1) pa_nil)))), ?_⟩
    refine ⟨_, rfl, a, rfl, ⟨_, SqL.of (fh _ _ ha)⟩, fun D nD => ?_⟩
    have fD : F D = none := fh.free nD
    refine it_by (walk_list (K := K) (a := a) (xs := xs)) (fun i H' => ∃ F' acc ws, Ext M0 F H F' H' ∧ H' D = some (.lst acc) ∧ F' D = none ∧ Paired (kW.is F') acc ws ∧ Wok ws ∧ (∀ p, cover ws p = cnt (sets.take i) p) ∧ ws.length ≤ total (sets.take i))
      ⟨F, [], [], (Ext.refl fh).tmp nD, upd_same, fD, .nil, fun x h => absurd h (by simp), fun _ => rfl, Nat.le_refl _⟩ (fun i H' _ ⟨_, _, _, X1, _⟩ => SqL.of (X1.fh _ _ (X1.ff _ _ ha))) ?_ ?_
    · rintro i x H1 _ hi ⟨F', acc, ws, X1, hD, fD', hacc, wok, hcov, hwl⟩ ⟨rfl, hx⟩
      obtain ⟨rs, hri, hrs⟩ := pr_get hp hx
      have hrm : rs ∈ sets := List.mem_of_getElem? hri
      have et : sets.take (i + 1) = sets.take i ++ [rs] := by rw [List.take_add_one, hri]; rfl
      have tl : total (sets.take i) + rs.length ≤ 100000 := by
        have h1 := total_take sets (i + 1)
        rw [et, total_snoc] at h1
        omega
      refine ⟨rfl, _, rfl, F', x, rs, rfl, X1.fh, (kL kRow).mono X1.ff hrs, hval rs hrm, by omega, fun F2 H2 b vs out X2 nb fb hb hout fw => ?_⟩
      refine ⟨b, rfl, ⟨vs, SqL.of hb⟩, ?_⟩
      have X3 := X1.trans X2
      have hD2 : H2 D = some (.lst acc) := X2.same _ _ hD
      have fD2 : F2 D = none := by rw [X2.new D (by rw [hD]; simp)]; exact fD'
      refine it_by (walk_list (K := K) (a := b) (xs := vs)) (fun j H' => ∃ F3 acc3, Ext M0 F H F3 H' ∧ H' D = some (.lst acc3) ∧ F3 D = none ∧ H' b = some (.lst vs) ∧ F3 b = none ∧ Paired (kRow.is F3) vs out ∧ Paired (kW.is F3) acc3 (ws ++ once (out.take j)))
        ⟨F2, acc, X3, hD2, fD2, hb, fb, hout, by rw [show once (out.take 0) = [] from rfl, List.append_nil]; exact pr_mono (fun _ _ z => kW.mono X2.ff z) hacc⟩ (fun j H' _ ⟨_, _, _, _, _, z, _⟩ => SqL.of z) ?_ ?_
      · rintro j y H3 _ hj ⟨F3, acc3, X4, hD3, fD3, hb3, fb3, hout3, hacc3⟩ ⟨rfl, hy⟩
        obtain ⟨r, hrj, hr3⟩ := pr_get hout3 hy
        refine ⟨rfl, _, rfl, (by show 2 ≤ sizeLine; decide), fun t nt => ?_⟩
        have Dt : D ≠ t := ne_of_none hD3 nt
        have bt : b ≠ t := ne_of_none hb3 nt
        have Db : b ≠ D := fun e => by rw [e] at nb; rw [nb] at hD; cases hD
        have la : acc3.length ≤ 100000 := by
          rw [pr_len hacc3, List.length_append, once_len]
          have h1 := List.length_take_le' j out
          have := fw.len
          omega
        refine ⟨acc3, by rw [upd_ne Dt]; exact hD3, by rw [sizeLine_eq]; omega, ?_⟩
        have fD4 : upd F3 t (.tup [y, .int 1]) D = none := by rw [upd_ne Dt]; exact fD3
        have sm : Same F3 (upd F3 t (.tup [y, .int 1])) := same_upd (X4.ffree nt)
        refine ⟨upd F3 t (.tup [y, .int 1]), acc3 ++ [.ref t], (X4.lay nt).put (.inl nD) fD4, upd_same, fD4, by rw [upd_ne Db, upd_ne bt]; exact hb3, by rw [upd_ne bt]; exact fb3, pr_mono (fun _ _ z => kRow.mono sm z) hout3, ?_⟩
        have eo : once (out.take (j + 1)) = once (out.take j) ++ [(r, 1)] := by rw [List.take_add_one, hrj]; exact once_snoc _ _
        rw [eo, ← List.append_assoc]
        exact pr_snoc (pr_mono (fun _ _ z => kW.mono sm z) hacc3) ⟨t, y, rfl, upd_same, kRow.mono sm hr3⟩
      · rintro H3 ⟨F3, acc3, X4, hD3, fD3, hb3, fb3, hout3, hacc3⟩
        rw [pr_len hout3, List.take_length] at hacc3
        refine ⟨F3, acc3, _, X4, hD3, fD3, hacc3, wok_append wok (wok_once (valid_canon fw.can)), fun p => ?_, ?_⟩
        · rw [cover_append, hcov p, cover_canon fw.can, et, cnt_snoc]
          have : ind (mem out p) = ind (mem rs p) := by
            rcases ind_or (mem rs p) with ⟨u, eu⟩ | ⟨u, eu⟩ <;> rw [eu]
            · exact ind_pos ((fw.mem p).mpr u)
            · exact ind_neg fun z => u ((fw.mem p).mp z)
          rw [this]
        · rw [List.length_append, once_len, et, total_snoc]
          have := fw.len
          omega
    · rintro H1 ⟨F', acc, ws, X1, hD, fD', hacc, wok, hcov, hwl⟩
      rw [pr_len hp, List.take_length] at hcov hwl
      have X2 := X1.frz nD fD' hD
      refine ⟨_, rfl, upd F' D (.lst acc), .ref D, ws, least, rfl, X2.fh, kL_new fD' hacc, wok, by omega, hle, RetL.step X2 q fun out t => ?_⟩
      exact ⟨t.can, fun p => by rw [t.mem p, hcov p], Nat.le_trans t.len hwl⟩
theorem ok_without {f : Addr} {fd : FuncData} (F0 : Fun K "without" "without" s_without f fd) (CR : Cal P w K mg base 2 "reaching" ["weighed", "least"] spReaching) (CF : Cal P w K mg base 3 "fewest" ["rows"] spFewest) :
    FnOk P w K mg base CX0 4 f fd ["one", "other"] spWithout := by
  obtain ⟨f1, fd1, G1, g1, kp1, b1⟩ := CR
  obtain ⟨f2, fd2, G2, g2, kp2, b2⟩ := CF
  refine F0.ok sc_without (fun vs H Q E h => ?_) (fun cdv A outer s H vs Q E hr h => ?_)
  · obtain ⟨F, v, u, one, other, rfl, _⟩ := h
    rfl
  · obtain ⟨F, v, u, one, other, rfl, fh, hv, ⟨b, ys, rfl, hb, hpb⟩, val1, val2, len1, len2, q⟩ := h
    have hr1 : Room 2 _ := hr.mono (by decide)
    refine ⟨_, pss_cons (ps_setLc (i := 2) (own := [("row", 4)]) (g := gName 4) (tt := tYes) (by rfl) sc_without.nd rfl rfl (sw_true rfl rfl rfl (by decide +kernel)) (pi_list (pe_call G2 hr (by rfl) g2 kp2 b2 .nil pass0 (pa_cons (pv 0) pa_nil)))
        (blkOk_by (own := [("row", 4)]) (N := ["one", "other", "kept", "barred", "row"]) (sc := defScope s_without) (by decide +kernel)) (fun _ _ _ _ _ => pg_name (i := 4) sc_without.nd rfl (Or.inl rfl)) (fun _ _ _ _ _ => pts_nil)
        (fun _ _ _ _ _ => pe_tup (pa_cons (pv 4) (pa_cons pe_int pa_nil))))
      (pss_cons (ps_setLc (i := 3) (own := [("row", 4)]) (g := gName 4) (tt := tYes) (by rfl) sc_without.nd rfl rfl (sw_true rfl rfl rfl (by decide +kernel)) (pi_list (pv 1))
        (blkOk_by (own := [("row", 4)]) (N := ["one", "other", "kept", "barred", "row"]) (sc := defScope s_without) (by decide +kernel)) (fun _ _ _ _ _ => pg_name (i := 4) sc_without.nd rfl (Or.inl rfl)) (fun _ _ _ _ _ => pts_nil)
        (fun _ _ _ _ _ => pe_tup (pa_cons (pv 4) (pa_cons (pe_un un_neg pe_int) pa_nil))))
      (pss_one (ps_ret (pe_call G1 hr1 (by rfl) g1 kp1 b1 .nil pass0 (pa_cons (pe_op op_cat (pv 2) (pv 3)) (pa_cons pe_int pa_nil)))))), ?_⟩
    have hr3 : Room 3 _ := hr.mono (by decide)
    refine ⟨_, rfl, F, v, one, rfl, fh, hv, val1, by omega, fun F1 H1 c vs out X1 nc fc hc hout fw => ?_⟩
    refine ⟨c, rfl, ⟨vs, SqL.of hc⟩, fun D nD => ?_⟩
    have HD : H D = none := X1.free nD
    have cD : c ≠ D := ne_of_none hc nD
    have lo : out.length ≤ 50000 := Nat.le_trans fw.len len1
    refine it_by (walk_list (K := K) (a := c) (xs := vs)) (fun i H' => ∃ F' acc, Ext M0 F H F' H' ∧ H' D = some (.lst acc) ∧ F' D = none ∧ H' c = some (.lst vs) ∧ Paired (kRow.is F') vs out ∧ Paired (kW.is F') acc (once (out.take i)))
      ⟨F1, [], X1.tmp nD, upd_same, X1.ffree nD, by rw [upd_ne cD]; exact hc, hout, .nil⟩ (fun i H' _ ⟨_, _, _, _, _, z, _⟩ => SqL.of z) ?_ ?_
    · rintro i x H2 _ hi ⟨F', acc, X2, hD, fD, hc2, hout2, hacc⟩ ⟨rfl, hx⟩
      obtain ⟨r, hri, hr2⟩ := pr_get hout2 hx
      refine ⟨rfl, _, rfl, (by show 2 ≤ sizeLine; decide), fun t nt => ?_⟩
      have Dt : D ≠ t := ne_of_none hD nt
      have ct : c ≠ t := ne_of_none hc2 nt
      have la : acc.length ≤ 50000 := by
        rw [pr_len hacc, once_len]
        have h1 := List.length_take_le' i out
        omega
      refine ⟨acc, by rw [upd_ne Dt]; exact hD, by rw [sizeLine_eq]; omega, ?_⟩
      have fD2 : upd F' t (.tup [x, .int 1]) D = none := by rw [upd_ne Dt]; exact fD
      have sm : Same F' (upd F' t (.tup [x, .int 1])) := same_upd (X2.ffree nt)
      refine ⟨upd F' t (.tup [x, .int 1]), acc ++ [.ref t], (X2.lay nt).put (.inl HD) fD2, upd_same, fD2, by rw [upd_ne cD, upd_ne ct]; exact hc2, pr_mono (fun _ _ z => kRow.mono sm z) hout2, ?_⟩
      have eo : once (out.take (i + 1)) = once (out.take i) ++ [(r, 1)] := by rw [List.take_add_one, hri]; exact once_snoc _ _
      rw [eo]
      exact pr_snoc (pr_mono (fun _ _ z => kW.mono sm z) hacc) ⟨t, x, rfl, upd_same, kRow.mono sm hr2⟩
    · rintro H2 ⟨F', acc, X2, hD, fD, hc2, hout2, hacc⟩
      rw [pr_len hout2, List.take_length] at hacc
      refine ⟨_, rfl, b, rfl, ⟨_, SqL.of (X2.fh _ _ (X2.ff _ _ hb))⟩, fun D2 nD2 => ?_⟩
      have HD2 : H D2 = none := X2.free nD2
      have DD : D ≠ D2 := ne_of_none hD nD2
      refine it_by (walk_list (K := K) (a := b) (xs := ys)) (fun i H' => ∃ F' acc2, Ext M0 F H F' H' ∧ H' D2 = some (.lst acc2) ∧ F' D2 = none ∧ H' D = some (.lst acc) ∧ F' D = none ∧ Paired (kW.is F') acc (once out) ∧ Paired (kW.is F') acc2 (anti (other.take i)))
        ⟨F', [], X2.tmp nD2, upd_same, X2.ffree nD2, by rw [upd_ne DD]; exact hD, fD, hacc, .nil⟩ (fun i H' _ ⟨_, _, z, _⟩ => SqL.of (z.fh _ _ (z.ff _ _ hb))) ?_ ?_
      · rintro i x H3 _ hi ⟨F3, acc2, X3, hD2, fD2, hD3, fD3, hacc3, hacc2⟩ ⟨rfl, hx⟩
        obtain ⟨r, hri, hr2⟩ := pr_get hpb hx
        refine ⟨rfl, _, rfl, 1, rfl, (by show 2 ≤ sizeLine; decide), fun t nt => ?_⟩
        have Dt : D2 ≠ t := ne_of_none hD2 nt
        have ct : D ≠ t := ne_of_none hD3 nt
        have la : acc2.length ≤ 50000 := by
          have e : (anti (other.take i)).length = (other.take i).length := List.length_map ..
          rw [pr_len hacc2, e]
          have h1 := List.length_take_le' i other
          omega
        refine ⟨acc2, by rw [upd_ne Dt]; exact hD2, by rw [sizeLine_eq]; omega, ?_⟩
        have fD4 : upd F3 t (.tup [x, .int (-1)]) D2 = none := by rw [upd_ne Dt]; exact fD2
        have sm : Same F3 (upd F3 t (.tup [x, .int (-1)])) := same_upd (X3.ffree nt)
        refine ⟨upd F3 t (.tup [x, .int (-1)]), acc2 ++ [.ref t], (X3.lay nt).put (.inl HD2) fD4, upd_same, fD4, by rw [upd_ne DD, upd_ne ct]; exact hD3, by rw [upd_ne ct]; exact fD3, pr_mono (fun _ _ z => kW.mono sm z) hacc3, ?_⟩
        have eo : anti (other.take (i + 1)) = anti (other.take i) ++ [(r, -1)] := by rw [List.take_add_one, hri]; exact List.map_append ..
        rw [eo]
        exact pr_snoc (pr_mono (fun _ _ z => kW.mono sm z) hacc2) ⟨t, x, rfl, upd_same, kRow.mono (X3.ff.trans sm) hr2⟩
      · rintro H3 ⟨F3, acc2, X3, hD2, fD2, hD3, fD3, hacc3, hacc2⟩
        rw [pr_len hpb, List.take_length] at hacc2
        have l1 : acc.length = out.length := by rw [pr_len hacc3, once_len]
        have l2 : acc2.length = other.length := by rw [pr_len hacc2]; exact List.length_map ..
        refine ⟨_, rfl, _, rfl, D, D2, acc, acc2, rfl, rfl, hD3, hD2, by rw [sizeLine_eq]; omega, fun p np => ?_⟩
        have X4 := X3.lay (o := .lst (acc ++ acc2)) np
        refine ⟨upd F3 p (.lst (acc ++ acc2)), .ref p, once out ++ anti other, 1, rfl, X4.fh, kL_new (X3.ffree np) (pr_append hacc3 hacc2), wok_append (wok_once (valid_canon fw.can)) (wok_anti val2), ?_, by decide, RetL.step X4 q fun o t => told_without fw t⟩
        have e : (anti other).length = other.length := List.length_map ..
        rw [List.length_append, once_len, e]
        omega
end
end Rw
namespace Rw
open PySem L2
theorem eqv_row (r s : Row) : PyData.eqv (dRow r) (dRow s) = decide (r = s) := by
  obtain ⟨a, b, c⟩ := r
  obtain ⟨a', b', c'⟩ := s
  unfold dRow
  simp only [PyData.eqv, PyData.eqvAll, Bool.and_true]
  by_cases e1 : a = a' <;> by_cases e2 : b = b' <;> by_cases e3 : c = c' <;> simp [e1, e2, e3]
theorem eqvAll_rows : ∀ xs ys : List Row, PyData.eqvAll (xs.map dRow) (ys.map dRow) = decide (xs = ys)
  | [], [] => rfl
  | [], _ :: _ => by simp [PyData.eqvAll]
  | _ :: _, [] => by simp [PyData.eqvAll]
  | x :: xs, y :: ys => by
    rw [List.map_cons, List.map_cons, PyData.eqvAll, eqv_row, eqvAll_rows xs ys]
    by_cases e1 : x = y <;> by_cases e2 : xs = ys <;> simp [e1, e2]
theorem eqv_rows (xs ys : List Row) : PyData.eqv (dL dRow xs) (dL dRow ys) = decide (xs = ys) := by
  unfold dL
  rw [PyData.eqv]
  exact eqvAll_rows xs ys
theorem canLay_rows : ∀ xs : List Row, PyData.canLayAll0 (xs.map dRow) = true
  | [] => rfl
  | x :: xs => by
    rw [List.map_cons, PyData.canLayAll0, canLay_rows xs]
    simp [dRow, PyData.canLay0, PyData.canLayAll0]
theorem depth_rows : ∀ xs : List Row, PyData.depthAll (xs.map dRow) ≤ 1
  | [] => by simp [PyData.depthAll]
  | x :: xs => by
    rw [List.map_cons, PyData.depthAll]
    have := depth_rows xs
    have h : (dRow x).depth ≤ 1 := by simp [dRow, PyData.depth, PyData.depthAll]
    omega
theorem shaped_rows (xs : List Row) : SeqAt.shaped (dL dRow xs) = true := by
  unfold SeqAt.shaped dL
  rw [PyData.canLay0, canLay_rows, PyData.depth]
  have := depth_rows xs
  simp
  omega
end Rw
namespace Rw
open PySem L2
theorem rows_valid {rs : List Row} (h : ∀ r ∈ rs, RowOk r) : Valid rs := fun r hr => (h r hr).2.2.2.1
def spPlain : Sp := fun vs H Q _ => ∃ (F : Hp) (v : V) (rs : List Row), vs = [v] ∧ Same F H ∧ (kL kRow).is F v rs ∧ RowsOk rs ∧ RetL M0 F H kRow (Fewest rs) Q
/-- of two sets: which points are told -/
structure Of2 (one other : List Row) (φ : Prop → Prop → Prop) (out : List Row) : Prop where
  can : Canon out
  mem : ∀ p, mem out p ↔ φ (mem one p) (mem other p)
  len : out.length ≤ one.length + other.length
def sp2 (φ : Prop → Prop → Prop) : Sp := fun vs H Q _ => ∃ (F : Hp) (v u : V) (one other : List Row), vs = [v, u] ∧ Same F H ∧ (kL kRow).is F v one ∧ (kL kRow).is F u other ∧ RowsOk one ∧ RowsOk other ∧ RetL M0 F H kRow (Of2 one other φ) Q
abbrev fOr : Prop → Prop → Prop := fun a b => a ∨ b
abbrev fAnd : Prop → Prop → Prop := fun a b => a ∧ b
abbrev fLess : Prop → Prop → Prop := fun a b => a ∧ ¬ b
def spByMany : Sp := fun vs H Q _ => ∃ (F : Hp) (v : V) (sets : List (List Row)) (least : Int), vs = [v, .int least] ∧ Same F H ∧ (kL (kL kRow)).is F v sets ∧ (∀ rs ∈ sets, RowsOk rs) ∧ sets.length ≤ 100 ∧ 1 ≤ least ∧ least ≤ sets.length ∧ RetL M0 F H kRow (Held sets least) Q
def fore (rs : List Row) : List Row := rs.map fun r => (r.1, 1, r.2.2)
def spGaps : Sp := fun vs H Q _ => ∃ (F : Hp) (v : V) (rs : List Row), vs = [v] ∧ Same F H ∧ (kL kRow).is F v rs ∧ RowsOk rs ∧ RetL M0 F H kRow (Without (fore rs) rs) Q
def spWithin : Sp := fun vs H Q _ => ∃ (F : Hp) (v u : V) (one other : List Row), vs = [v, u] ∧ Same F H ∧ (kL kRow).is F v one ∧ (kL kRow).is F u other ∧ RowsOk one ∧ RowsOk other ∧
  ∀ (b : Bool) (F' H' : Hp), Ext M0 F H F' H' → (b = true ↔ ∀ p, mem one p → mem other p) → Q (.bl b) H'
/-- up to where there is no gap -/
structure Whole (rs : List Row) (h z : Int) : Prop where
  nn : 0 ≤ z
  all : ∀ n, 1 ≤ n → n ≤ z → mem rs (h, n)
  stop : ¬ mem rs (h, z + 1)
def spWholeTo : Sp := fun vs H Q _ => ∃ (F : Hp) (v : V) (rs : List Row) (h : Int), vs = [v, .int h] ∧ Same F H ∧ (kL kRow).is F v rs ∧ RowsOk rs ∧ 0 ≤ h ∧ h ≤ 7 ∧ ∀ (z : Int) (F' H' : Hp), Ext M0 F H F' H' → Whole rs h z → Q (.int z) H'
theorem ext_of_same {F H H' : Hp} (s : Same F H) (t : Same H H') : Ext M0 F H F H' :=
  ⟨Same.refl F, s.trans t, fun b o h _ => t b o h, fun b h e => h (t.free e), fun _ _ => rfl⟩
section
variable {P : Program} {w : World} {K : PySem.W.Frag} {mg : Str → Option Value} {base : Heap}
abbrev CalCheck (P : Program) (w : World) (K : PySem.W.Frag) (mg : Str → Option Value) (base : Heap) := Cal P w K mg base 5 "check_rows" ["rows"] spCheckRows
theorem two_sets {F' : Hp} {v u : V} {one other : List Row} (h1 : (kL kRow).is F' v one) (h2 : (kL kRow).is F' u other) : Paired ((kL kRow).is F') [v, u] [one, other] := .cons h1 (.cons h2 .nil)
end
end Rw
namespace Rw
open PySem L2
theorem total_le {n : Nat} : ∀ {sets : List (List Row)}, (∀ rs ∈ sets, rs.length ≤ n) → total sets ≤ n * sets.length
  | [], _ => Nat.zero_le _
  | rs :: sets, h => by
    have h1 := h rs List.mem_cons_self
    have h2 := total_le (sets := sets) fun x hx => h x (List.mem_cons_of_mem _ hx)
    show rs.length + total sets ≤ n * (sets.length + 1)
    rw [Nat.mul_add]; omega
section
variable {P : Program} {w : World} {K : PySem.W.Frag} {mg : Str → Option Value} {base : Heap}
def spWholeIn : Sp := fun vs H Q _ => ∃ (F : Hp) (v : V) (rs : List Row) (h : Int), vs = [v, .int h] ∧ Same F H ∧ (kL kRow).is F v rs ∧ Valid rs ∧ (∀ r ∈ rs, 1 ≤ r.2.1) ∧ rs.length ≤ 100000 ∧ ∀ (z : Int) (F' H' : Hp), Ext M0 F H F' H' → Whole rs h z → Q (.int z) H'
end
end Rw
namespace Rw
open PySem L2
/-! ### the law's dice -/
def dice (s : Addr) (i m r : Int) : HO := .lst [.ref s, .int i, .int m, .int r]
structure Good (i m r : Int) : Prop where
  i0 : 0 ≤ i
  m0 : 0 ≤ m
  m1 : m < 2147483647
  r0 : 0 ≤ r
def spDice (K : PySem.W.Frag) : Sp := fun vs H Q _ => ∃ (s : Addr) (ns : List Int), vs = [.ref s] ∧ SqL K H s (ns.map V.int) ∧ ∀ (d : Addr) (m : Int), H d = none → Good 0 m 0 → Q (.ref d) (upd H d (dice s 0 m 0))
/-- the dice at d over the script at s -/
structure DiceAt (K : PySem.W.Frag) (F H : Hp) (d s : Addr) (ns : List Int) : Prop where
  fh : Same F H
  fd : F d = none
  sc : SqL K F s (ns.map V.int)
  ex : ∃ i m r : Int, H d = some (dice s i m r) ∧ Good i m r
/-- what a draw may do -/
def RetN (K : PySem.W.Frag) (F H : Hp) (d s : Addr) (ns : List Int) (many : Int) (Q : VK) : Prop := ∀ (z : Int) (H' : Hp), 0 ≤ z → z < many → Ext (· = d) F H F H' → DiceAt K F H' d s ns → Q (.int z) H'
def spNext (K : PySem.W.Frag) : Sp := fun vs H Q _ => ∃ (F : Hp) (d s : Addr) (ns : List Int) (many : Int), vs = [.ref d, .int many] ∧ DiceAt K F H d s ns ∧ 1 ≤ many ∧ many < 2 ^ 64 ∧ RetN K F H d s ns many Q
structure TxL (mg : Str → Option Value) : Prop where
  int : mg "int" = none
  len : mg "len" = none
  range : mg "range" = none
  min : mg "min" = none
theorem atI_int {ns : List Int} {i : Int} (h0 : 0 ≤ i) (h1 : i < ns.length) : ∃ c, atI (ns.map V.int) i = some (.int c) := by
  obtain ⟨j, rfl⟩ : ∃ j : Nat, i = (j : Int) := ⟨i.toNat, by omega⟩
  have hl : j < ns.length := by omega
  exact ⟨ns[j], atI_nat (by rw [List.getElem?_map, List.getElem?_eq_getElem hl]; rfl)⟩
theorem DiceAt.put {K : PySem.W.Frag} {F H : Hp} {d s : Addr} {ns : List Int} (D : DiceAt K F H d s ns) {i m r : Int} (g : Good i m r) : Ext (· = d) F H F (upd H d (dice s i m r)) ∧ DiceAt K F (upd H d (dice s i m r)) d s ns :=
  ⟨(Ext.refl D.fh).put (.inr rfl) D.fd, ⟨same_put D.fh D.fd, D.fd, D.sc, ⟨i, m, r, upd_same, g⟩⟩⟩
section
variable {P : Program} {w : World} {K : PySem.W.Frag} {mg : Str → Option Value} {base : Heap}
theorem ok_law_dice {f : Addr} {fd : FuncData} (F0 : Fun K "_law_dice" "_law_dice" s_law_dice f fd) (T : TxL mg) : FnOk P w K mg base CX0 1 f fd ["_law_script"] (spDice K) := by
  refine F0.ok sc_law_dice (fun vs H Q E h => ?_) (fun cdv A outer s H vs Q E hr h => ?_)
  · obtain ⟨s, ns, rfl, _⟩ := h
    rfl
  · obtain ⟨s, ns, rfl, hs, q⟩ := h
    refine ⟨_, pss_cons (ps_set (i := 1) sc_law_dice.nd rfl (.inl rfl) pe_int)
      (pss_cons (ps_for PassesOwn.never rfl (pi_list (pv 0)) (pg_name (i := 2) sc_law_dice.nd rfl (.inl rfl))
        (pss_one (ps_set (i := 1) sc_law_dice.nd rfl (.inl rfl) (pe_op op_mod (pe_op op_add (pe_op op_add (pe_op op_mul (pv 1) pe_int) (pe_op op_mul (pe_op op_mod (pv 2) pe_int) pe_int)) pe_int) pe_int))))
      (pss_one (ps_ret (pe_lst (pa_cons (pv 0) (pa_cons pe_int (pa_cons (pe_op op_mul (pv 1) (pe_callTy call_int1 (by rfl) T.int (by decide +kernel) (pa_cons (pe_cmpR op_gt (pe_callB call_len (by rfl) T.len PySem.boot_len (pa_cons (pv 0) pa_nil)) pe_int (nomark _)) pa_nil))) (pa_cons pe_int pa_nil)))))))), ?_⟩
    refine ⟨_, rfl, s, rfl, ⟨_, hs⟩, for_list (K := K) (a := s) (xs := ns.map V.int) (fun i σ H' => ∃ (m : Int) (y : Option V), σ = [some (.ref s), some (.int m), y] ∧ 0 ≤ m ∧ m < 2147483647 ∧ H' = H) ⟨0, none, rfl, by decide, by decide, rfl⟩ (fun i σ H' _ ⟨_, _, _, _, _, e⟩ => e ▸ hs) ?_ ?_⟩
    · rintro i x σ H' hi ⟨m, y, rfl, h0, h1, rfl⟩
      obtain ⟨c, hc, rfl⟩ : ∃ c, ns[i]? = some c ∧ x = .int c := by
        rw [List.getElem?_map] at hi
        cases e : ns[i]? with
        | none => rw [e] at hi; cases hi
        | some c => rw [e] at hi; exact ⟨c, rfl, (Option.some.inj hi).symm⟩
      have p1 : (0 : Int) < 2147483647 := by decide
      refine ⟨_, rfl, _, _, rfl, rfl, .inl ⟨by omega, by omega⟩, _, rfl, _, _, rfl, rfl, p1, _, _, rfl, rfl, .inr ⟨by decide, by decide⟩, _, _, rfl, rfl, _, _, rfl, rfl, _, _, rfl, rfl, p1, ?_⟩
      exact ⟨_, _, rfl, Int.emod_nonneg _ (by decide), Int.emod_lt_of_pos _ p1, rfl⟩
    · rintro σ H' ⟨m, y, rfl, h0, h1, rfl⟩
      refine ⟨_, rfl, _, rfl, _, rfl, _, _, rfl, .inl ⟨_, hs, rfl⟩, _, _, rfl, rfl, .inr ⟨_, rfl, _, _, rfl, rfl, .inl ⟨by omega, by omega⟩, ?_⟩⟩
      refine ⟨by show 4 ≤ sizeLine; decide, fun d nd => ?_⟩
      refine q d _ nd ⟨Int.le_refl _, ?_, ?_, Int.le_refl _⟩
      · split <;> omega
      · split <;> omega
theorem ok_law_next {f : Addr} {fd : FuncData} (F0 : Fun K "_law_next" "_law_next" s_law_next f fd) (T : TxL mg) : FnOk P w K mg base CX0 1 f fd ["_law_dice_here", "_law_many"] (spNext K) := by
  refine F0.ok sc_law_next (fun vs H Q E h => ?_) (fun cdv A outer s H vs Q E hr h => ?_)
  · obtain ⟨F, d, s, ns, many, rfl, _⟩ := h
    rfl
  · obtain ⟨F, d, s, ns, many, rfl, D, m1, m2, q⟩ := h
    obtain ⟨i, m, r, hd, g⟩ := D.ex
    have hdv : many.natAbs < 2 ^ 64 := by omega
    refine ⟨_, pss_cons (ps_if (pt_cmpR op_gt (pe_ix ix_list (pv 0) pe_int (fun _ _ => rfl)) pe_int (nomark _))
        (pss_cons (ps_set (i := 2) sc_law_next.nd rfl (.inl rfl) (pe_op op_mod (pe_ix ix_list (pv 0) pe_int (fun _ _ => rfl)) (pv 1)))
        (pss_cons (ps_asg (pe_op op_fdivW (pe_ix ix_list (pv 0) pe_int (fun _ _ => rfl)) (pv 1)) (pg_sub (pv 0) pe_int set_list))
        (pss_one (ps_ret (pv 2))))) pss_nil)
      (pss_cons (ps_asg (pe_op op_add (pe_ix ix_list (pv 0) pe_int (fun _ _ => rfl)) pe_int) (pg_sub (pv 0) pe_int set_list))
      (pss_cons (ps_if (pt_cmpR op_le (pe_ix ix_list (pv 0) pe_int (fun _ _ => rfl)) (pe_callB call_len (by rfl) T.len PySem.boot_len (pa_cons (pe_ix ix_list (pv 0) pe_int (fun _ _ => rfl)) pa_nil)) (nomark _))
        (pss_cons (ps_set (i := 3) sc_law_next.nd rfl (.inl rfl) (pe_ix ix_list (pe_ix ix_list (pv 0) pe_int (fun _ _ => rfl)) (pe_op op_sub (pe_ix ix_list (pv 0) pe_int (fun _ _ => rfl)) pe_int) (fun _ _ => rfl)))
        (pss_cons (ps_asg (pe_ifExp (pt_cmpR op_ge (pv 3) (pe_op op_pow pe_int pe_int) (nomark _)) (pe_op op_fdivW (pv 3) (pv 1)) pe_int) (pg_sub (pv 0) pe_int set_list))
        (pss_one (ps_ret (pe_op op_mod (pv 3) (pv 1)))))) pss_nil)
      (pss_cons (ps_asg (pe_op op_mod (pe_op op_mul (pe_ix ix_list (pv 0) pe_int (fun _ _ => rfl)) pe_int) pe_int) (pg_sub (pv 0) pe_int set_list))
      (pss_one (ps_ret (pe_op op_mod (pe_op op_fdiv (pe_ix ix_list (pv 0) pe_int (fun _ _ => rfl)) pe_int) (pv 1))))))), ?_⟩
    have p1 : (0 : Int) < 2147483647 := by decide
    have pm : 0 < many := by omega
    refine ⟨_, rfl, d, _, 3, .int r, rfl, rfl, SqL.of hd, rfl, _, _, rfl, rfl, _, rfl, ite2 (fun c => ?_) (fun c => ?_)⟩
    · -- some digits are left
      refine ⟨_, rfl, d, _, 3, .int r, rfl, rfl, SqL.of hd, rfl, _, rfl, _, _, rfl, rfl, pm, ?_⟩
      refine ⟨_, rfl, d, _, 3, .int r, rfl, rfl, SqL.of hd, rfl, _, rfl, _, _, rfl, rfl, wide_div pm hdv (by decide) (by decide), ?_⟩
      refine ⟨_, rfl, d, _, 3, 3, rfl, rfl, hd, rfl, ?_⟩
      have g' : Good i m (r / many) := ⟨g.i0, g.m0, g.m1, Int.ediv_nonneg g.r0 (by omega)⟩
      exact ⟨_, rfl, q _ _ (Int.emod_nonneg _ (by omega)) (Int.emod_lt_of_pos _ pm) (D.put g').1 (D.put g').2⟩
    · refine ⟨_, rfl, d, _, 1, .int i, rfl, rfl, SqL.of hd, rfl, _, _, rfl, rfl, ?_⟩
      refine ⟨_, rfl, d, _, 1, 1, rfl, rfl, hd, rfl, ?_⟩
      have g1 : Good (i + 1) m r := ⟨by have := g.i0; omega, g.m0, g.m1, g.r0⟩
      have D1 := (D.put g1).2
      have X1 := (D.put g1).1
      have hs1 : SqL K (upd H d (dice s (i + 1) m r)) s (ns.map V.int) := D1.fh.seq D.sc
      have go2 : ∀ {i' m' r' z : Int}, Good i' m' r' → 0 ≤ z → z < many → Q (.int z) (upd (upd H d (dice s (i + 1) m r)) d (dice s i' m' r')) := fun g' h0 h1 =>
        q _ _ h0 h1 (X1.trans (D1.put g').1) (D1.put g').2
      refine ⟨_, rfl, d, _, 1, .int (i + 1), rfl, rfl, SqL.of upd_same, rfl, _, rfl, d, _, 0, .ref s, rfl, rfl, SqL.of upd_same, rfl, _, _, rfl, .inl ⟨_, hs1, rfl⟩, _, _, rfl, rfl, _, rfl, ite2 (fun c2 => ?_) (fun c2 => ?_)⟩
      · have c2 := of_decide_eq_true c2
        rw [List.length_map] at c2
        obtain ⟨cell, hc⟩ := atI_int (ns := ns) (i := i + 1 - 1) (by have := g.i0; omega) (by omega)
        refine ⟨_, rfl, d, _, 0, .ref s, rfl, rfl, SqL.of upd_same, rfl, _, rfl, d, _, 1, .int (i + 1), rfl, rfl, SqL.of upd_same, rfl, _, _, rfl, rfl, s, _, _, .int cell, rfl, rfl, hs1, hc, ?_⟩
        refine ⟨_, rfl, _, _, rfl, rfl, ⟨by decide, by decide, by decide⟩, _, _, rfl, rfl, _, rfl, ite2 (fun c3 => ?_) (fun c3 => ?_)⟩
        · have c3 := of_decide_eq_true c3
          have cp : 0 ≤ cell := by
            have e : (10 : Int) ^ (18 : Int).toNat = 1000000000000000000 := by decide
            rw [e] at c3
            omega
          refine ⟨_, rfl, _, rfl, _, _, rfl, rfl, wide_div pm hdv (by decide) (by decide), _, rfl, d, _, 3, 3, rfl, rfl, upd_same, rfl, ?_⟩
          refine ⟨_, rfl, _, rfl, _, _, rfl, rfl, pm, ?_⟩
          exact go2 ⟨g1.i0, g1.m0, g1.m1, Int.ediv_nonneg cp (by omega)⟩ (Int.emod_nonneg _ (by omega)) (Int.emod_lt_of_pos _ pm)
        · refine ⟨_, rfl, d, _, 3, 3, rfl, rfl, upd_same, rfl, ?_⟩
          refine ⟨_, rfl, _, rfl, _, _, rfl, rfl, pm, ?_⟩
          exact go2 ⟨g1.i0, g1.m0, g1.m1, Int.le_refl _⟩ (Int.emod_nonneg _ (by omega)) (Int.emod_lt_of_pos _ pm)
      · have gm0 := g.m0
        have gm1 := g.m1
        refine ⟨_, rfl, d, _, 2, .int m, rfl, rfl, SqL.of upd_same, rfl, _, _, rfl, rfl, .inl ⟨by omega, by omega⟩, _, _, rfl, rfl, p1, _, rfl, d, _, 2, 2, rfl, rfl, upd_same, rfl, ?_⟩
        have g2 : Good (i + 1) (m * 48271 % 2147483647) r := ⟨g1.i0, Int.emod_nonneg _ (by decide), Int.emod_lt_of_pos _ p1, g1.r0⟩
        refine ⟨_, rfl, d, _, 2, .int (m * 48271 % 2147483647), rfl, rfl, SqL.of upd_same, rfl, _, _, rfl, rfl, ⟨by decide, by decide⟩, _, rfl, _, _, rfl, rfl, pm, ?_⟩
        exact go2 g2 (Int.emod_nonneg _ (by omega)) (Int.emod_lt_of_pos _ pm)
end
end Rw
namespace Rw
open PySem L2
/-- a drawn row -/
def Drawn (houses far : Int) (r : Row) : Prop := 0 ≤ r.1 ∧ r.1 < houses ∧ 1 ≤ r.2.1 ∧ r.2.1 ≤ r.2.2 ∧ r.2.2 ≤ far
def spRows (K : PySem.W.Frag) : Sp := fun vs H Q _ => ∃ (F : Hp) (d s : Addr) (ns : List Int) (houses far most : Int), vs = [.ref d, .int houses, .int far, .int most] ∧ DiceAt K F H d s ns ∧ 1 ≤ houses ∧ houses ≤ 8 ∧ 1 ≤ far ∧ far ≤ LIM ∧ 0 ≤ most ∧ most ≤ 1000 ∧
  ∀ (F' H' : Hp) (a : Addr) (xs : List V) (rows : List Row), Ext (· = d) F H F' H' → DiceAt K F' H' d s ns → H a = none → F' a = none → H' a = some (.lst xs) → Paired (kRow.is F') xs rows → (rows.length : Int) ≤ most → (∀ r ∈ rows, Drawn houses far r) → Q (.ref a) H'
theorem DiceAt.step {K : PySem.W.Frag} {F H F' H' : Hp} {d s : Addr} {ns : List Int} (D : DiceAt K F H d s ns) (X : Ext M0 F H F' H') : DiceAt K F' H' d s ns := by
  obtain ⟨i, m, r, hd, g⟩ := D.ex
  exact ⟨X.fh, by rw [X.new d (by rw [hd]; simp)]; exact D.fd, X.ff.seq D.sc, ⟨i, m, r, X.same _ _ hd, g⟩⟩
theorem DiceAt.ne {K : PySem.W.Frag} {F H : Hp} {d s p : Addr} {ns : List Int} (D : DiceAt K F H d s ns) (h : H p = none) : d ≠ p := by
  obtain ⟨i, m, r, hd, g⟩ := D.ex
  exact ne_of_none hd h
theorem DiceAt.lay {K : PySem.W.Frag} {F H : Hp} {d s p : Addr} {ns : List Int} {o : HO} (D : DiceAt K F H d s ns) (h : H p = none) : DiceAt K (upd F p o) (upd H p o) d s ns :=
  D.step ((Ext.refl D.fh).lay h)
theorem DiceAt.tmp {K : PySem.W.Frag} {F H : Hp} {d s p : Addr} {ns : List Int} {o : HO} (D : DiceAt K F H d s ns) (h : H p = none) : DiceAt K F (upd H p o) d s ns :=
  D.step ((Ext.refl D.fh).tmp h)
theorem DiceAt.set {K : PySem.W.Frag} {F H : Hp} {d s p : Addr} {ns : List Int} {o : HO} (D : DiceAt K F H d s ns) (h : d ≠ p) (f : F p = none) : DiceAt K F (upd H p o) d s ns := by
  obtain ⟨i, m, r, hd, g⟩ := D.ex
  exact ⟨same_put D.fh f, D.fd, D.sc, ⟨i, m, r, by rw [upd_ne h]; exact hd, g⟩⟩
section
variable {P : Program} {w : World} {K : PySem.W.Frag} {mg : Str → Option Value} {base : Heap}
theorem ok_law_rows {f : Addr} {fd : FuncData} (F0 : Fun K "_law_rows" "_law_rows" s_law_rows f fd) (T : TxL mg) (CN : Cal P w K mg base 1 "_law_next" ["_law_dice_here", "_law_many"] (spNext K)) : FnOk P w K mg base CX0 2 f fd ["_law_d", "_law_houses", "_law_far", "_law_most"] (spRows K) := by
  obtain ⟨f1, fd1, G1, g1, kp1, b1⟩ := CN
  refine F0.ok sc_law_rows (fun vs H Q E h => ?_) (fun cdv A outer s0 H vs Q E hr h => ?_)
  · obtain ⟨F, d, s, ns, houses, far, most, rfl, _⟩ := h
    rfl
  · obtain ⟨F, d, s, ns, houses, far, most, rfl, D0, h1, h8, f1', fL, m0, m1, q⟩ := h
    have eL : LIM = 1000000000000 := rfl
    refine ⟨_, pss_cons (ps_set (i := 4) sc_law_rows.nd rfl (.inl rfl) (pe_lst pa_nil))
      (pss_cons (ps_for PassesOwn.never rfl (pi_range1 (by rfl) T.range (pa_cons (pe_call G1 hr (by rfl) g1 kp1 b1 .nil pass0 (pa_cons (pv 0) (pa_cons (pe_op op_add (pv 3) pe_int) pa_nil))) pa_nil)) (pg_name (i := 5) sc_law_rows.nd rfl (.inl rfl))
        (pss_cons (ps_set (i := 6) sc_law_rows.nd rfl (.inl rfl) (pe_op op_add pe_int (pe_call G1 hr (by rfl) g1 kp1 b1 .nil pass0 (pa_cons (pv 0) (pa_cons (pv 2) pa_nil)))))
        (pss_cons (ps_set (i := 7) sc_law_rows.nd rfl (.inl rfl) (pe_ix ix_list (pe_lst (pa_cons pe_int (pa_cons (pe_call G1 hr (by rfl) g1 kp1 b1 .nil pass0 (pa_cons (pv 0) (pa_cons pe_int pa_nil))) (pa_cons (pe_call G1 hr (by rfl) g1 kp1 b1 .nil pass0 (pa_cons (pv 0) (pa_cons (pv 2) pa_nil))) pa_nil))))
            (pe_call G1 hr (by rfl) g1 kp1 b1 .nil pass0 (pa_cons (pv 0) (pa_cons pe_int pa_nil))) (fun _ _ => rfl)))
        (pss_one (ps_expr (pe_bm PySem.F.plainAttrs_list PySem.F.slot_list_append PySem.F.type_list_append mt_append (pv 4) (pa_cons (pe_tup (pa_cons (pe_call G1 hr (by rfl) g1 kp1 b1 .nil pass0 (pa_cons (pv 0) (pa_cons (pv 1) pa_nil))) (pa_cons (pv 6)
            (pa_cons (pe_callB (call_min2 (by rfl)) (by rfl) T.min (by decide +kernel) (pa_cons (pv 2) (pa_cons (pe_op op_add (pv 6) (pv 7)) pa_nil))) pa_nil)))) pa_nil)))))))
      (pss_one (ps_ret (pv 4)))), ?_⟩
    refine ⟨Nat.zero_le _, fun o no => ?_⟩
    have Fo : F o = none := D0.fh.free no
    have dO : d ≠ o := D0.ne no
    have X0 : Ext (· = d) F H F (upd H o (.lst [])) := (Ext.refl D0.fh).tmp no
    have ho0 : upd H o (.lst []) o = some (.lst []) := upd_same
    have D1 : DiceAt K F (upd H o (.lst [])) d s ns := D0.tmp no
    revert X0 ho0 D1
    generalize upd H o (.lst []) = H1
    intro X0 ho0 D1
    refine ⟨_, rfl, _, rfl, _, _, rfl, rfl, F, d, s, ns, most + 1, rfl, D1, by omega, by omega, fun z H2 z0 z1 X1 D2 => ?_⟩
    have ho2 : H2 o = some (.lst []) := X1.hh _ _ ho0 fun e => dO e.symm
    have X2 := X0.trans X1
    refine ⟨z, rfl, by omega, by omega, for_range (lo := 0) (n := z.toNat) (fun i σ H' => ∃ F' acc rows y5 y6 y7, σ = [some (.ref d), some (.int houses), some (.int far), some (.int most), some (.ref o), y5, y6, y7] ∧ Ext (· = d) F H F' H' ∧ DiceAt K F' H' d s ns ∧ H' o = some (.lst acc) ∧ F' o = none ∧ Paired (kRow.is F') acc rows ∧ rows.length = i ∧ ∀ r ∈ rows, Drawn houses far r)
      ⟨F, [], [], none, none, none, rfl, X2, D2, ho2, Fo, .nil, rfl, fun r h => absurd h (by simp)⟩ ?_ ?_⟩
    · rintro i σ H3 hi ⟨F', acc, rows, y5, y6, y7, rfl, X3, D3, ho3, fo3, hpr, hlen, hdr⟩
      -- first = 1 + next(d, far)
      refine ⟨_, rfl, _, rfl, F', d, s, ns, far, rfl, D3, f1', by omega, fun a H4 a0 a1 Y4 D4 => ?_⟩
      refine ⟨_, _, rfl, rfl, ?_⟩
      -- wide
      refine ⟨_, rfl, F', d, s, ns, 3, rfl, D4, by decide, by decide, fun b H5 b0 b1 Y5 D5 => ?_⟩
      refine ⟨_, rfl, _, rfl, F', d, s, ns, far, rfl, D5, f1', by omega, fun c H6 c0 c1 Y6 D6 => ?_⟩
      refine ⟨by show 3 ≤ sizeLine; decide, fun p np => ?_⟩
      have D6' : DiceAt K F' (upd H6 p (.lst [.int 0, .int b, .int c])) d s ns := D6.tmp np
      have dp : d ≠ p := D6.ne np
      refine ⟨_, rfl, F', d, s, ns, 3, rfl, D6', by decide, by decide, fun e H7 e0 e1 Y7 D7 => ?_⟩
      have hp7 : H7 p = some (.lst [.int 0, .int b, .int c]) := Y7.hh _ _ upd_same fun z => dp z.symm
      obtain ⟨wd, w0, hw⟩ : ∃ wd : Int, 0 ≤ wd ∧ atI [V.int 0, V.int b, V.int c] e = some (.int wd) := by
        rcases (show e = 0 ∨ e = 1 ∨ e = 2 by omega) with z | z | z
        · exact ⟨0, Int.le_refl _, by rw [z]; rfl⟩
        · exact ⟨b, b0, by rw [z]; rfl⟩
        · exact ⟨c, c0, by rw [z]; rfl⟩
      have Y : Ext (· = d) F' H3 F' H7 := ((Y4.trans Y5).trans Y6 |>.tmp np).trans Y7
      have ho7 : H7 o = some (.lst acc) := Y.hh _ _ ho3 fun z => dO z.symm
      refine ⟨p, _, e, _, rfl, rfl, SqL.of hp7, hw, ?_⟩
      -- append
      refine ⟨_, rfl, .inl ⟨rfl, _, SqL.of ho7⟩, _, rfl, _, rfl, F', d, s, ns, houses, rfl, D7, h1, by omega, fun h H8 hh0 hh1 Y8 D8 => ?_⟩
      have ho8 : H8 o = some (.lst acc) := Y8.hh _ _ ho7 fun z => dO z.symm
      refine ⟨_, rfl, _, rfl, _, rfl, _, rfl, _, _, rfl, rfl, _, _, rfl, by show 3 ≤ sizeLine; decide, fun t nt => ?_⟩
      have ot : o ≠ t := ne_of_none ho8 nt
      have la : acc.length = i := by rw [pr_len hpr]; exact hlen
      refine ⟨o, acc, _, rfl, rfl, by rw [upd_ne ot]; exact ho8, by rw [sizeLine_eq]; omega, ?_⟩
      have XT := (X3.trans Y).trans Y8
      have fo9 : upd F' t (.tup [.int h, .int (1 + a), .int (if 1 + a + wd < far then 1 + a + wd else far)]) o = none := by rw [upd_ne ot]; exact fo3
      have sm : Same F' (upd F' t (.tup [.int h, .int (1 + a), .int (if 1 + a + wd < far then 1 + a + wd else far)])) := same_upd (XT.ffree nt)
      refine ⟨upd F' t (.tup [.int h, .int (1 + a), .int (if 1 + a + wd < far then 1 + a + wd else far)]), acc ++ [.ref t], rows ++ [(h, 1 + a, if 1 + a + wd < far then 1 + a + wd else far)], _, _, _, rfl,
        (XT.lay nt).put (.inl no) fo9, (D8.lay nt).set dO fo9, upd_same, fo9, pr_snoc (pr_mono (fun _ _ z => kRow.mono sm z) hpr) ⟨t, rfl, upd_same⟩, by rw [List.length_append, hlen]; rfl, fun r hr => ?_⟩
      rcases List.mem_append.mp hr with hr | hr
      · exact hdr r hr
      · rw [List.mem_singleton.mp hr]
        refine ⟨hh0, hh1, ?_, ?_, ?_⟩
        · show 1 ≤ 1 + a; omega
        · show 1 + a ≤ if 1 + a + wd < far then 1 + a + wd else far
          split <;> omega
        · show (if 1 + a + wd < far then 1 + a + wd else far) ≤ far
          split <;> omega
    · rintro σ H3 ⟨F', acc, rows, y5, y6, y7, rfl, X3, D3, ho3, fo3, hpr, hlen, hdr⟩
      exact ⟨_, rfl, q F' H3 o acc rows X3 D3 no fo3 ho3 hpr (by omega) hdr⟩
end
end Rw
namespace Rw
open PySem L2
/-! ### alike: the law's own comparing, sort by sort -/
def sc0 (v u : V) : Prop := (∃ i, v = .int i ∧ u = .int i) ∨ (∃ b, v = .bl b ∧ u = .bl b) ∨ (∃ z, v = .str z ∧ u = .str z) ∨ (v = .non ∧ u = .non)
def Twin (H : Hp) : Nat → V → V → Prop
  | 0, _, _ => False
  | n + 1, v, u => sc0 v u ∨ ∃ a b xs ys, v = .ref a ∧ u = .ref b ∧ ((H a = some (.tup xs) ∧ H b = some (.tup ys)) ∨ (H a = some (.lst xs) ∧ H b = some (.lst ys))) ∧ ys.length ≤ 100000 ∧ xs.length = ys.length ∧ ∀ (i : Nat) (x y : V), xs[i]? = some x → ys[i]? = some y → Twin H n x y
theorem Twin.mono {H H' : Hp} (s : Same H H') : ∀ {n : Nat} {v u : V}, Twin H n v u → Twin H' n v u
  | 0, _, _, h => h
  | n + 1, v, u, .inl h => .inl h
  | n + 1, v, u, .inr ⟨a, b, xs, ys, ev, eu, h, l, e, p⟩ => .inr ⟨a, b, xs, ys, ev, eu, h.imp (fun ⟨x, y⟩ => ⟨s _ _ x, s _ _ y⟩) (fun ⟨x, y⟩ => ⟨s _ _ x, s _ _ y⟩), l, e, fun i x y hx hy => (p i x y hx hy).mono s⟩
def spLike (n : Nat) : Sp := fun vs H Q _ => ∃ (v u : V), vs = [v, u] ∧ Twin H n v u ∧ Q (.bl true) H
structure TxK (mg : Str → Option Value) : Prop where
  isinst : mg "isinstance" = none
  int : mg "int" = none
  bool : mg "bool" = none
  str : mg "str" = none
  tuple : mg "tuple" = none
  list : mg "list" = none
  len : mg "len" = none
  range : mg "range" = none
theorem bt_str : bootBuiltins "str" = some (.type "str") := by decide +kernel
theorem bt_list : bootBuiltins "list" = some (.type "list") := by decide +kernel
theorem isi_use {K : PySem.W.Frag} {H : Hp} {x : V} {t n : String} {r : Bool} {Q : VK} (ty : TyX K H x (.type t)) (k : kitB t n = some r) (q : Q (.bl r) H) : rIsi K [x, .ty n] H Q :=
  ⟨_, .ty n, _, _, _, rfl, .ty _, ty, kit_ty k, q⟩
section
variable {P : Program} {w : World} {K : PySem.W.Frag} {mg : Str → Option Value} {base : Heap}
theorem ok_law_like {f : Addr} {fd : FuncData} {n : Nat} (F0 : Fun K "_law_like" "_law_like" s_law_like f fd) (T : TxK mg) (CL : Cal P w K mg base (n + 1) "_law_like" ["_law_found", "_law_due"] (spLike n)) :
    FnOk P w K mg base CX0 (n + 2) f fd ["_law_found", "_law_due"] (spLike (n + 1)) := by
  obtain ⟨f1, fd1, G1, g1, kp1, b1⟩ := CL
  refine F0.ok sc_law_like (fun vs H Q E h => ?_) (fun cdv A outer s H vs Q E hr h => ?_)
  · obtain ⟨v, u, rfl, _⟩ := h
    rfl
  · obtain ⟨v, u, rfl, t, q⟩ := h
    refine ⟨_, pss_cons (ps_if (pt_val (pe_callB call_isi (by rfl) T.isinst (by decide +kernel) (pa_cons (pv 1) (pa_cons (pe_bty (by rfl) T.bool bt_bool) pa_nil))))
        (pss_one (ps_ret (pe_and (pe_callB call_isi (by rfl) T.isinst (by decide +kernel) (pa_cons (pv 0) (pa_cons (pe_bty (by rfl) T.bool bt_bool) pa_nil))) (pe_one (pe_cmpR op_eq (pv 0) (pv 1) (nomark _)))))) pss_nil)
      (pss_cons (ps_if (pt_val (pe_callB call_isi (by rfl) T.isinst (by decide +kernel) (pa_cons (pv 1) (pa_cons (pe_bty (by rfl) T.str bt_str) pa_nil))))
        (pss_one (ps_ret (pe_and (pe_callB call_isi (by rfl) T.isinst (by decide +kernel) (pa_cons (pv 0) (pa_cons (pe_bty (by rfl) T.str bt_str) pa_nil))) (pe_one (pe_cmpR op_eq (pv 0) (pv 1) (nomark _)))))) pss_nil)
      (pss_cons (ps_if (pt_val (pe_callB call_isi (by rfl) T.isinst (by decide +kernel) (pa_cons (pv 1) (pa_cons (pe_bty (by rfl) T.int bt_int) pa_nil))))
        (pss_one (ps_ret (pe_and (pe_callB call_isi (by rfl) T.isinst (by decide +kernel) (pa_cons (pv 0) (pa_cons (pe_bty (by rfl) T.int bt_int) pa_nil))) (pe_and (pe_not (pe_callB call_isi (by rfl) T.isinst (by decide +kernel) (pa_cons (pv 0) (pa_cons (pe_bty (by rfl) T.bool bt_bool) pa_nil)))) (pe_one (pe_cmpR op_eq (pv 0) (pv 1) (nomark _))))))) pss_nil)
      (pss_cons (ps_if (pt_cmp (pc_isN (pv 1))) (pss_one (ps_ret (pe_cmp (pc_isN (pv 0))))) pss_nil)
      (pss_cons (ps_if (PW.pt (pw_or (pt_cmpR op_ne (pe_callB call_isi (by rfl) T.isinst (by decide +kernel) (pa_cons (pv 1) (pa_cons (pe_bty (by rfl) T.tuple bt_tuple) pa_nil))) (pe_callB call_isi (by rfl) T.isinst (by decide +kernel) (pa_cons (pv 0) (pa_cons (pe_bty (by rfl) T.tuple bt_tuple) pa_nil))) (nomark _))
          (pw_or1 (pt_cmpR op_ne (pe_callB call_isi (by rfl) T.isinst (by decide +kernel) (pa_cons (pv 1) (pa_cons (pe_bty (by rfl) T.list bt_list) pa_nil))) (pe_callB call_isi (by rfl) T.isinst (by decide +kernel) (pa_cons (pv 0) (pa_cons (pe_bty (by rfl) T.list bt_list) pa_nil))) (nomark _))))) (pss_one (ps_ret pe_bl)) pss_nil)
      (pss_cons (ps_if (pt_cmpR op_ne (pe_callB call_len (by rfl) T.len PySem.boot_len (pa_cons (pv 0) pa_nil)) (pe_callB call_len (by rfl) T.len PySem.boot_len (pa_cons (pv 1) pa_nil)) (nomark _)) (pss_one (ps_ret pe_bl)) pss_nil)
      (pss_cons (ps_for PassesOwn.never rfl (pi_range1 (by rfl) T.range (pa_cons (pe_callB call_len (by rfl) T.len PySem.boot_len (pa_cons (pv 1) pa_nil)) pa_nil)) (pg_name (i := 2) sc_law_like.nd rfl (.inl rfl))
        (pss_one (ps_if (pt_not (pt_val (pe_call G1 hr (by rfl) g1 kp1 b1 .nil pass0 (pa_cons (pe_ix ix_seq (pv 0) (pv 2) (fun _ _ => rfl)) (pa_cons (pe_ix ix_seq (pv 1) (pv 2) (fun _ _ => rfl)) pa_nil))))) (pss_one (ps_ret pe_bl)) pss_nil)))
      (pss_one (ps_ret pe_bl)))))))), ?_⟩
    obtain (⟨i, rfl, rfl⟩ | ⟨b, rfl, rfl⟩ | ⟨z, rfl, rfl⟩ | ⟨rfl, rfl⟩) | ⟨a, b, xs, ys, rfl, rfl, hab, hl, hlen, hp⟩ := t
    · refine ⟨_, rfl, _, .ty "bool", _, _, _, rfl, .ty _, .base (.int i), kit_ib, false, rfl, iteF ?_⟩
      refine ⟨_, rfl, _, .ty "str", _, _, _, rfl, .ty _, .base (.int i), kit_ty (r := false) (by decide +kernel), false, rfl, iteF ?_⟩
      refine ⟨_, rfl, _, .ty "int", _, _, _, rfl, .ty _, .base (.int i), kit_ii, true, rfl, iteT ?_⟩
      refine ⟨_, rfl, _, .ty "int", _, _, _, rfl, .ty _, .base (.int i), kit_ii, true, rfl, iteT ?_⟩
      refine ⟨_, rfl, _, .ty "bool", _, _, _, rfl, .ty _, .base (.int i), kit_ib, false, rfl, true, rfl, iteT ?_⟩
      refine ⟨_, rfl, _, rfl, rfl, ?_⟩
      rw [decide_eq_true rfl]
      exact q
    · refine ⟨_, rfl, _, .ty "bool", _, _, _, rfl, .ty _, .base (.bl b), kit_ty (r := true) (by decide +kernel), true, rfl, iteT ?_⟩
      refine ⟨_, rfl, _, .ty "bool", _, _, _, rfl, .ty _, .base (.bl b), kit_ty (r := true) (by decide +kernel), true, rfl, iteT ?_⟩
      refine ⟨_, rfl, _, rfl, rfl, ?_⟩
      rw [decide_eq_true rfl]
      exact q
    · refine ⟨_, rfl, _, .ty "bool", _, _, _, rfl, .ty _, .base (.str z), kit_ty (r := false) (by decide +kernel), false, rfl, iteF ?_⟩
      refine ⟨_, rfl, _, .ty "str", _, _, _, rfl, .ty _, .base (.str z), kit_ty (r := true) (by decide +kernel), true, rfl, iteT ?_⟩
      refine ⟨_, rfl, _, .ty "str", _, _, _, rfl, .ty _, .base (.str z), kit_ty (r := true) (by decide +kernel), true, rfl, iteT ?_⟩
      refine ⟨_, rfl, _, rfl, rfl, ?_⟩
      rw [decide_eq_true rfl]
      exact q
    · refine ⟨_, rfl, _, .ty "bool", _, _, _, rfl, .ty _, .base .non, kit_ty (r := false) (by decide +kernel), false, rfl, iteF ?_⟩
      refine ⟨_, rfl, _, .ty "str", _, _, _, rfl, .ty _, .base .non, kit_ty (r := false) (by decide +kernel), false, rfl, iteF ?_⟩
      refine ⟨_, rfl, _, .ty "int", _, _, _, rfl, .ty _, .base .non, kit_ty (r := false) (by decide +kernel), false, rfl, iteF ?_⟩
      exact ⟨_, rfl, _, rfl, iteT ⟨_, rfl, q⟩⟩
    · -- a list or a tuple
      obtain ⟨T', c1, c2, ta, tb, k1, k2, k3, k4, k5, hs⟩ : ∃ (T' : String) (c1 c2 : Bool), TyX K H (.ref a) (.type T') ∧ TyX K H (.ref b) (.type T') ∧ kitB T' "bool" = some false ∧ kitB T' "str" = some false ∧ kitB T' "int" = some false ∧ kitB T' "tuple" = some c1 ∧ kitB T' "list" = some c2 ∧
          ((SqL K H a xs ∧ SqL K H b ys) ∨ (SqT K H a xs ∧ SqT K H b ys)) := by
        rcases hab with ⟨ha, hb⟩ | ⟨ha, hb⟩
        · exact ⟨"tuple", true, false, tyx_tup ha, tyx_tup hb, by decide +kernel, by decide +kernel, by decide +kernel, by decide +kernel, by decide +kernel, .inr ⟨SqT.of ha, SqT.of hb⟩⟩
        · exact ⟨"list", false, true, tyx_lst ha, tyx_lst hb, by decide +kernel, by decide +kernel, by decide +kernel, by decide +kernel, by decide +kernel, .inl ⟨SqL.of ha, SqL.of hb⟩⟩
      have la : LenV K (.ref a) H xs.length := hs.imp (fun z => ⟨xs, z.1, rfl⟩) fun z => ⟨xs, z.1, rfl⟩
      have lb : LenV K (.ref b) H ys.length := hs.imp (fun z => ⟨ys, z.2, rfl⟩) fun z => ⟨ys, z.2, rfl⟩
      refine ⟨_, rfl, _, .ty "bool", _, _, _, rfl, .ty _, tb, kit_ty k1, false, rfl, iteF ?_⟩
      refine ⟨_, rfl, _, .ty "str", _, _, _, rfl, .ty _, tb, kit_ty k2, false, rfl, iteF ?_⟩
      refine ⟨_, rfl, _, .ty "int", _, _, _, rfl, .ty _, tb, kit_ty k3, false, rfl, iteF ?_⟩
      refine ⟨_, rfl, _, rfl, iteF ?_⟩
      refine ⟨_, rfl, _, .ty "tuple", _, _, _, rfl, .ty _, tb, kit_ty k4, _, rfl, _, .ty "tuple", _, _, _, rfl, .ty _, ta, kit_ty k4, rfl, _, rfl, iteNS rfl ?_⟩
      refine ⟨_, rfl, _, .ty "list", _, _, _, rfl, .ty _, tb, kit_ty k5, _, rfl, _, .ty "list", _, _, _, rfl, .ty _, ta, kit_ty k5, rfl, _, rfl, iteNS rfl ?_⟩
      refine ⟨_, rfl, _, _, rfl, la, _, rfl, _, _, rfl, lb, rfl, _, rfl, iteNS (by rw [hlen]) ?_⟩
      refine ⟨_, rfl, _, _, rfl, lb, _, rfl, by omega, by omega, for_range (lo := 0) (n := ys.length) (fun i σ H' => ∃ y2, σ = [some (.ref a), some (.ref b), y2] ∧ H' = H) ⟨none, rfl, rfl⟩ ?_ ?_⟩
      · rintro i σ H' hi ⟨y2, rfl, rfl⟩
        obtain ⟨x, hx⟩ : ∃ x, xs[i]? = some x := ⟨_, List.getElem?_eq_getElem (by omega)⟩
        obtain ⟨y, hy⟩ : ∃ y, ys[i]? = some y := ⟨_, List.getElem?_eq_getElem hi⟩
        have ax : atI xs (0 + (i : Int)) = some x := by rw [Int.zero_add]; exact atI_nat hx
        have ay : atI ys (0 + (i : Int)) = some y := by rw [Int.zero_add]; exact atI_nat hy
        refine ⟨_, rfl, _, rfl, ?_⟩
        have ix : ∀ (Q : VK), (Q x H' → rIx K (.ref a) (.int (0 + (i : Int))) H' Q) := fun Q q => hs.elim (fun z => .inl ⟨a, xs, _, x, rfl, rfl, z.1, ax, q⟩) fun z => .inr (.inl ⟨a, xs, _, x, rfl, rfl, z.1, ax, q⟩)
        have iy : ∀ (Q : VK), (Q y H' → rIx K (.ref b) (.int (0 + (i : Int))) H' Q) := fun Q q => hs.elim (fun z => .inl ⟨b, ys, _, y, rfl, rfl, z.2, ay, q⟩) fun z => .inr (.inl ⟨b, ys, _, y, rfl, rfl, z.2, ay, q⟩)
        refine ix _ ⟨_, rfl, _, rfl, iy _ ⟨x, y, rfl, hp i x y hx hy, true, rfl, iteF ⟨_, rfl, rfl⟩⟩⟩
      · rintro σ H' ⟨y2, rfl, rfl⟩
        exact q
end
end Rw
namespace Rw
open PySem L2
/-! ### rows moved along -/
def mv1 (by' : Int) (r : Row) : Row := (r.1, r.2.1 + by', r.2.2 + by')
def moved (by' : Int) (rs : List Row) : List Row := rs.map (mv1 by')
def spMoved : Sp := fun vs H Q _ => ∃ (F : Hp) (v : V) (rs : List Row) (b : Int), vs = [v, .int b] ∧ Same F H ∧ (kL kRow).is F v rs ∧ rs.length ≤ 100000 ∧ RetL M0 F H kRow (· = moved b rs) Q
section
variable {P : Program} {w : World} {K : PySem.W.Frag} {mg : Str → Option Value} {base : Heap}
end
end Rw
namespace Rw
open PySem L2
/-! ### the names of rows, one by one -/
structure DKy (kvs : List (List Key × V)) (ps : List Pt) : Prop where
  keys : kvs.map (·.1) = ps.map kk
  nd : ps.Nodup
theorem DKy.nil : DKy [] [] := ⟨rfl, .nil⟩
theorem DKy.len {kvs : List (List Key × V)} {ps : List Pt} (d : DKy kvs ps) : kvs.length = ps.length := by
  have h := congrArg List.length d.keys
  rw [List.length_map, List.length_map] at h
  exact h
theorem DKy.put {kvs : List (List Key × V)} {ps : List Pt} (d : DKy kvs ps) (q : Pt) (v : V) : ∃ ps', DKy (putK kvs (kk q) v) ps' ∧ (∀ p, p ∈ ps' ↔ p ∈ ps ∨ p = q) ∧ ps'.length ≤ ps.length + 1 := by
  by_cases m : q ∈ ps
  · refine ⟨ps, ⟨?_, d.nd⟩, fun p => ⟨.inl, fun h => h.elim id fun e => e ▸ m⟩, Nat.le_succ _⟩
    have a : (kvs.any fun kv => decide (kv.1 = kk q)) = true := by
      have h1 : kk q ∈ kvs.map (·.1) := by rw [d.keys]; exact List.mem_map.mpr ⟨q, m, rfl⟩
      obtain ⟨kv, hkv, e⟩ := List.mem_map.mp h1
      exact List.any_eq_true.mpr ⟨kv, hkv, decide_eq_true e⟩
    unfold putK
    rw [if_pos a, List.map_map, ← d.keys]
    refine List.map_congr_left fun kv _ => ?_
    by_cases e : kv.1 = kk q
    · simp only [Function.comp, if_pos e]
    · simp only [Function.comp, if_neg e]
  · refine ⟨ps ++ [q], ⟨?_, ?_⟩, fun p => by simp, by simp⟩
    · have a : ¬ (kvs.any fun kv => decide (kv.1 = kk q)) = true := fun h => by
        obtain ⟨kv, hkv, e⟩ := List.any_eq_true.mp h
        have h1 : kv.1 ∈ ps.map kk := by rw [← d.keys]; exact List.mem_map.mpr ⟨kv, hkv, rfl⟩
        rw [of_decide_eq_true e] at h1
        obtain ⟨p, hp, e2⟩ := List.mem_map.mp h1
        rw [kk_inj e2] at hp
        exact m hp
      unfold putK
      rw [if_neg a, List.map_append, List.map_append, d.keys]
      rfl
    · exact List.nodup_append.mpr ⟨d.nd, by simp, fun a ha b hb e => by rw [List.mem_singleton.mp hb] at e; exact m (e ▸ ha)⟩
/-- a frame that has all tuples -/
def Full (F H : Hp) : Prop := ∀ t xs, H t = some (.tup xs) → F t = some (.tup xs)
def absb (F H : Hp) : Hp := fun b => match H b with
  | some (.tup xs) => some (.tup xs)
  | _ => F b
theorem absb_tup {F H : Hp} {b : Addr} {xs : List V} (h : H b = some (.tup xs)) : absb F H b = some (.tup xs) := by unfold absb; rw [h]
theorem absb_ne {F H : Hp} {b : Addr} (h : ∀ xs, H b ≠ some (.tup xs)) : absb F H b = F b := by
  unfold absb
  split
  · rename_i xs e; exact absurd e (h xs)
  · rfl
theorem absb_or {F H : Hp} (b : Addr) : (∃ xs, H b = some (.tup xs) ∧ absb F H b = some (.tup xs)) ∨ ((∀ xs, H b ≠ some (.tup xs)) ∧ absb F H b = F b) := by
  by_cases h : ∃ xs, H b = some (.tup xs)
  · obtain ⟨xs, h⟩ := h
    exact .inl ⟨xs, h, absb_tup h⟩
  · have h' : ∀ xs, H b ≠ some (.tup xs) := fun xs e => h ⟨xs, e⟩
    exact .inr ⟨h', absb_ne h'⟩
theorem absb_full {F H : Hp} : Full (absb F H) H := fun _ _ h => absb_tup h
theorem absb_same {F H : Hp} (s : Same F H) : Same (absb F H) H := fun b o e => by
  rcases absb_or (F := F) (H := H) b with ⟨xs, h, e'⟩ | ⟨_, e'⟩
  · rw [e'] at e; rw [h]; exact e
  · rw [e'] at e; exact s _ _ e
theorem absb_sub {F H : Hp} (s : Same F H) : Same F (absb F H) := fun b o e => by
  rcases absb_or (F := F) (H := H) b with ⟨xs, h, e'⟩ | ⟨_, e'⟩
  · rw [e', ← h]; exact s _ _ e
  · rw [e']; exact e
/-- the old frame where there was something, the new heap but for one place elsewhere -/
def lift (F H G : Hp) : Hp := fun b => match H b with
  | some _ => F b
  | none => G b
theorem lift_old {F H G : Hp} {b : Addr} (h : H b ≠ none) : lift F H G b = F b := by
  unfold lift
  split
  · rfl
  · rename_i e; exact absurd e h
theorem lift_new {F H G : Hp} {b : Addr} (h : H b = none) : lift F H G b = G b := by unfold lift; rw [h]
theorem lift_ext {F H F1 H' G : Hp} (s0 : Same F H) (X : Ext M0 F H F1 H') (s : Same G H') : Ext M0 F H (lift F H G) H' := by
  refine ⟨fun b o e => ?_, fun b o e => ?_, X.hh, X.tr, fun b e => lift_old e⟩
  · rw [lift_old (by rw [s0 _ _ e]; simp)]; exact e
  · by_cases h : H b = none
    · rw [lift_new h] at e; exact s _ _ e
    · rw [lift_old h] at e; exact X.fh _ _ (X.ff _ _ e)
theorem lift_pt {F H F1 H' G : Hp} (X : Ext M0 F H F1 H') (fu : Full F H) (s : Same G H') {v : V} {p : Pt} (h : kPt.is G v p) : kPt.is (lift F H G) v p := by
  obtain ⟨t, e, ht⟩ := h
  refine ⟨t, e, ?_⟩
  cases q : H t with
  | none => rw [lift_new q]; exact ht
  | some o =>
    rw [lift_old (by rw [q]; simp)]
    have h1 := X.same _ _ q
    rw [s _ _ ht] at h1
    rw [← Option.some.inj h1] at q
    exact fu _ _ q
structure NamesOf (rs : List Row) (qs : List Pt) : Prop where
  sort : qs.Pairwise lt2
  mem : ∀ p, p ∈ qs ↔ mem rs p
  len : qs.length ≤ 400 * rs.length
def Small (rs : List Row) : Prop := rs.length ≤ 250 ∧ ∀ r ∈ rs, 1 ≤ r.2.1 ∧ r.2.1 ≤ r.2.2 ∧ r.2.2 ≤ 400
def spNames : Sp := fun vs H Q _ => ∃ (F : Hp) (v : V) (rs : List Row), vs = [v] ∧ Same F H ∧ Full F H ∧ (kL kRow).is F v rs ∧ Small rs ∧ RetL M0 F H kPt (NamesOf rs) Q
structure TxN (mg : Str → Option Value) : Prop where
  range : mg "range" = none
  sorted : mg "sorted" = none
theorem mem_take {rs : List Row} {i : Nat} {r : Row} (h : rs[i]? = some r) (p : Pt) : mem (rs.take (i + 1)) p ↔ mem (rs.take i) p ∨ inRow r p := by
  have eT : rs.take (i + 1) = rs.take i ++ [r] := by rw [List.take_add_one, h]; rfl
  rw [eT, mem_append]
  constructor
  · rintro (z | ⟨s, hs, z⟩)
    · exact .inl z
    · rw [List.mem_singleton.mp hs] at z; exact .inr z
  · rintro (z | z)
    · exact .inl z
    · exact .inr ⟨r, List.mem_singleton.mpr rfl, z⟩
section
variable {P : Program} {w : World} {K : PySem.W.Frag} {mg : Str → Option Value} {base : Heap}
theorem ok_law_names {f : Addr} {fd : FuncData} (F0 : Fun K "_law_names" "_law_names" s_law_names f fd) (T : TxN mg) : FnOk P w K mg base CX0 1 f fd ["_law_rows_here"] spNames := by
  refine F0.ok sc_law_names (fun vs H Q E h => ?_) (fun cdv A outer s H vs Q E hr h => ?_)
  · obtain ⟨F, v, rs, rfl, _⟩ := h
    rfl
  · obtain ⟨F, v, rs, rfl, fh, fu, ⟨a, xs, rfl, ha, hp⟩, ⟨hl, hsm⟩, q⟩ := h
    have hu := hu_of hr
    refine ⟨_, pss_cons (ps_set (i := 1) sc_law_names.nd rfl (.inl rfl) pe_dnewT)
      (pss_cons (ps_for PassesOwn.never rfl (pi_list (pv 0))
          (pg_tup rfl (pgs_cons (pg_name (i := 2) sc_law_names.nd rfl (.inl rfl)) (pgs_cons (pg_name (i := 3) sc_law_names.nd rfl (.inl rfl)) (pgs_cons (pg_name (i := 4) sc_law_names.nd rfl (.inl rfl)) pgs_nil))))
        (pss_one (ps_for PassesOwn.never rfl (pi_range2 (by rfl) T.range (pa_cons (pv 3) (pa_cons (pe_op op_add (pv 4) pe_int) pa_nil))) (pg_name (i := 5) sc_law_names.nd rfl (.inl rfl))
          (pss_one (ps_dput hu (pv 1) (pe_tup (pa_cons (pv 2) (pa_cons (pv 5) pa_nil))) pe_bl rfl)))))
      (pss_one (ps_ret (pe_callB (cr_sortedDT (by rfl)) (by rfl) T.sorted (by decide +kernel) (pa_cons (pv 1) pa_nil))))), ?_⟩
    intro d nd
    have fd0 : F d = none := fh.free nd
    refine ⟨_, rfl, a, rfl, ⟨xs, SqL.of ((same_upd nd) _ _ (fh _ _ ha))⟩, for_list (K := K) (a := a) (xs := xs) (fun i σ H1 => ∃ kvs ps y2 y3 y4 y5, σ = [some (.ref a), some (.ref d), y2, y3, y4, y5] ∧ Ext M0 F H F H1 ∧ H1 d = some (.dT kvs) ∧ DKy kvs ps ∧ (∀ p, p ∈ ps ↔ mem (rs.take i) p) ∧ ps.length ≤ 400 * i)
      ⟨[], [], none, none, none, none, rfl, (Ext.refl fh).put (.inl nd) fd0, upd_same, DKy.nil, fun p => ⟨fun h => absurd h (by simp), fun h => absurd h mem_nil⟩, Nat.le_refl _⟩ (fun i σ H1 _ ⟨_, _, _, _, _, _, _, X1, _⟩ => SqL.of (X1.fh _ _ ha)) ?_ ?_⟩
    · rintro i x σ H1 hi ⟨kvs, ps, y2, y3, y4, y5, rfl, X1, hd, hk, hm, hn⟩
      obtain ⟨r, hri, t, rfl, ht⟩ := pr_get hp hi
      obtain ⟨r1, r2, r3⟩ := hsm _ (List.mem_of_getElem? hri)
      have i250 : i < 250 := by
        have := (List.getElem?_eq_some_iff.mp hri).1
        omega
      refine ⟨t, _, rfl, SqT.of (X1.fh _ _ ht), rfl, _, _, rfl, _, _, rfl, _, _, rfl, rfl, ?_⟩
      refine ⟨_, rfl, _, rfl, _, _, rfl, rfl, r.2.1, r.2.2 + 1, rfl, ⟨by omega, by omega, by omega, by omega⟩, for_range (lo := r.2.1) (n := (r.2.2 + 1 - r.2.1).toNat) (fun j σ H' => ∃ kvs ps y5, σ = [some (.ref a), some (.ref d), some (.int r.1), some (.int r.2.1), some (.int r.2.2), y5] ∧ Ext M0 F H F H' ∧ H' d = some (.dT kvs) ∧ DKy kvs ps ∧ (∀ p, p ∈ ps ↔ mem (rs.take i) p ∨ (p.1 = r.1 ∧ r.2.1 ≤ p.2 ∧ p.2 < r.2.1 + (j : Int))) ∧ ps.length ≤ 400 * i + j)
        ⟨kvs, ps, y5, rfl, X1, hd, hk, fun p => by rw [hm p]; exact ⟨.inl, fun z => z.elim id fun z => absurd z (by omega)⟩, hn⟩ ?_ ?_⟩
      · rintro j σ H2 hj ⟨kvs2, ps2, y5', rfl, X2, hd2, hk2, hm2, hn2⟩
        have hj4 : j < 400 := by omega
        refine ⟨_, rfl, _, rfl, _, rfl, (by show 2 ≤ sizeLine; decide), fun k1 nk1 => ?_⟩
        have dk1 : d ≠ k1 := ne_of_none hd2 nk1
        have hd3 : upd H2 k1 (.tup [.int r.1, .int (r.2.1 + (j : Int))]) d = some (.dT kvs2) := by rw [upd_ne dk1]; exact hd2
        obtain ⟨ps3, hk3, hm3, hn3⟩ := hk2.put (r.1, r.2.1 + (j : Int)) (.bl true)
        refine ⟨d, _, rfl, DPut.t (k := kk (r.1, r.2.1 + (j : Int))) hd3 upd_same (by rw [hk2.len, sizeLine_eq]; omega), ?_⟩
        refine ⟨_, ps3, _, rfl, (X2.tmp nk1).put (.inl nd) fd0, upd_same, hk3, fun p => ?_, by omega⟩
        rw [hm3 p, hm2 p]
        constructor
        · rintro ((z | z) | z)
          · exact .inl z
          · exact .inr (by omega)
          · rw [z]; exact .inr ⟨rfl, by simp only; omega, by simp only; omega⟩
        · rintro (z | z)
          · exact .inl (.inl z)
          · by_cases e : p.2 = r.2.1 + (j : Int)
            · exact .inr (Prod.ext z.1 e)
            · exact .inl (.inr (by omega))
      · rintro σ H2 ⟨kvs2, ps2, y5', rfl, X2, hd2, hk2, hm2, hn2⟩
        refine ⟨kvs2, ps2, _, _, _, _, rfl, X2, hd2, hk2, fun p => ?_, by omega⟩
        rw [hm2 p, mem_take hri p]
        refine or_congr Iff.rfl ?_
        unfold inRow
        constructor
        · rintro ⟨z1, z2, z3⟩; exact ⟨z1.symm, z2, by omega⟩
        · rintro ⟨z1, z2, z3⟩; exact ⟨z1.symm, z2, by omega⟩
    · rintro σ H1 ⟨kvs, ps, y2, y3, y4, y5, rfl, X1, hd, hk, hm, hn⟩
      rw [pr_len hp, List.take_length] at hm
      refine ⟨_, rfl, d, kvs, ps, rfl, hd, hk.keys, hk.nd, fun ys qs p hys hperm hsort np => ?_⟩
      have X2 := lift_ext fh X1 (Same.refl H1)
      have X3 := X2.tmp (o := .lst ys) np
      have fp : lift F H H1 p = none := X2.ffree np
      refine q _ _ p ys qs X3 (X1.free np) fp upd_same (pr_mono (fun _ _ z => lift_pt X1 fu (Same.refl H1) z) hys) ⟨hsort, fun p => by rw [hperm.mem_iff, hm p], ?_⟩
      rw [hperm.length_eq]
      have := pr_len hp
      omega
end
end Rw
namespace Rw
open PySem L2
/-! ### names told as rows -/
structure ToldOf (ps : List Pt) (out : List Row) : Prop where
  can : Canon out
  mem : ∀ p, mem out p ↔ p ∈ ps
  len : out.length ≤ ps.length
theorem ToldOf.nil : ToldOf [] [] := ⟨.nil, fun p => ⟨fun h => absurd h mem_nil, fun h => absurd h (by simp)⟩, Nat.le_refl _⟩
theorem ToldOf.behind {ps : List Pt} {out : List Row} {k : Pt} (t : ToldOf ps out) (h : ∀ p ∈ ps, lt2 p k) {r : Row} (hr : r ∈ out) : r.1 < k.1 ∨ (r.1 = k.1 ∧ r.2.2 < k.2) := by
  have m := h _ ((t.mem (r.1, r.2.2)).mp (t.can.last hr))
  unfold lt2 at m
  simp only at m
  omega
theorem ToldOf.grow {ps : List Pt} {init : List Row} {r : Row} {k : Pt} (t : ToldOf ps (init ++ [r])) (h : ∀ p ∈ ps, lt2 p k) (e1 : r.1 = k.1) (e2 : r.2.2 + 1 = k.2) : ToldOf (ps ++ [k]) (init ++ [(k.1, r.2.1, k.2)]) := by
  have hr : r ∈ init ++ [r] := by simp
  have o := t.can.ok r hr
  have pw := List.pairwise_append.mp t.can.ord
  have ci : Canon init := ⟨fun s hs => t.can.ok s (List.mem_append_left _ hs), pw.1⟩
  refine ⟨ci.snoc (by simp only; omega) fun s hs => ?_, fun p => ?_, by have := t.len; simp at this ⊢; omega⟩
  · have b := pw.2.2 s hs r (by simp)
    unfold before at b ⊢
    simp only at b ⊢
    omega
  · have m := t.mem p
    rw [mem_append] at m ⊢
    rw [List.mem_append, List.mem_singleton, ← m]
    have one : Rw.mem [(k.1, r.2.1, k.2)] p ↔ Rw.mem [r] p ∨ p = k := by
      unfold Rw.mem inRow
      simp only [List.mem_singleton, exists_eq_left]
      constructor
      · rintro ⟨a, b, c⟩
        by_cases z : p.2 = k.2
        · exact .inr (Prod.ext a.symm z)
        · exact .inl ⟨by omega, b, by omega⟩
      · rintro (⟨a, b, c⟩ | rfl)
        · exact ⟨by omega, b, by omega⟩
        · exact ⟨rfl, by omega, Int.le_refl _⟩
    rw [one, or_assoc]
theorem ToldOf.more {ps : List Pt} {out : List Row} {k : Pt} (t : ToldOf ps out) (h : ∀ p ∈ ps, lt2 p k) (hn : ∀ init r, out = init ++ [r] → ¬ (r.1 = k.1 ∧ r.2.2 + 1 = k.2)) : ToldOf (ps ++ [k]) (out ++ [(k.1, k.2, k.2)]) := by
  refine ⟨t.can.snoc (Int.le_refl _) fun s hs => ?_, fun p => ?_, by have := t.len; simp; omega⟩
  · have b := t.behind h hs
    unfold before
    simp only
    by_cases e : s.1 = k.1 ∧ s.2.2 + 1 = k.2
    · exfalso
      rcases List.eq_nil_or_concat out with z | ⟨init, r, z⟩
      · rw [z] at hs; simp at hs
      · rw [List.concat_eq_append] at z
        have nr := hn init r z
        rw [z] at hs
        rcases List.mem_append.mp hs with hs | hs
        · have c := t.can.ord
          rw [z] at c
          have q := (List.pairwise_append.mp c).2.2 s hs r (by simp)
          have br := t.behind h (r := r) (by rw [z]; simp)
          have o := t.can.ok r (by rw [z]; simp)
          unfold before at q
          omega
        · rw [List.mem_singleton.mp hs] at e
          exact nr e
    · omega
  · rw [mem_append, List.mem_append, List.mem_singleton, t.mem p]
    refine or_congr Iff.rfl ?_
    unfold Rw.mem inRow
    simp only [List.mem_singleton, exists_eq_left]
    constructor
    · rintro ⟨a, b, c⟩
      exact Prod.ext a.symm (by omega)
    · rintro rfl
      exact ⟨rfl, Int.le_refl _, Int.le_refl _⟩
theorem ixN_last (n : Nat) : ixN (n + 1) (-1) = some n := by
  unfold ixN
  rw [if_neg (by decide), if_pos (by omega)]
  congr 1
  omega
def spTold : Sp := fun vs H Q _ => ∃ (F : Hp) (v : V) (ps : List Pt), vs = [v] ∧ Same F H ∧ (kL kPt).is F v ps ∧ ps.Pairwise lt2 ∧ ps.length ≤ 1000000 ∧ RetL M0 F H kRow (ToldOf ps) Q
theorem pr_concat {α : Type} {R : V → α → Prop} {vs : List V} {xs : List α} {x : α} (h : Paired R vs (xs ++ [x])) : ∃ us u, vs = us ++ [u] ∧ Paired R us xs ∧ R u x := by
  have hl := pr_len h
  rw [List.length_append, List.length_singleton] at hl
  obtain ⟨u, hu, ru⟩ := pr_get' (i := xs.length) (x := x) h (by simp)
  refine ⟨vs.take xs.length, u, ?_, ?_, ru⟩
  · have e : vs.take (xs.length + 1) = vs.take xs.length ++ [u] := by rw [List.take_add_one, hu]; rfl
    rw [← e, ← hl, List.take_length]
  · have := pr_take xs.length h
    rw [List.take_left'] at this
    · exact this
    · rfl
theorem set_last {α : Type} (xs : List α) (x y : α) : (xs ++ [x]).set xs.length y = xs ++ [y] := by
  rw [List.set_append_right _ _ (Nat.le_refl _), Nat.sub_self]
  rfl
section
variable {P : Program} {w : World} {K : PySem.W.Frag} {mg : Str → Option Value} {base : Heap}
theorem ok_law_told_rows {f : Addr} {fd : FuncData} (F0 : Fun K "_law_told_rows" "_law_told_rows" s_law_told_rows f fd) : FnOk P w K mg base CX0 1 f fd ["_law_names_here"] spTold := by
  refine F0.ok sc_law_told_rows (fun vs H Q E h => ?_) (fun cdv A outer s H vs Q E hr h => ?_)
  · obtain ⟨F, v, ps, rfl, _⟩ := h
    rfl
  · obtain ⟨F, v, ps, rfl, fh, ⟨a, xs, rfl, ha, hp⟩, hsort, hl, q⟩ := h
    have hu := hr.units
    refine ⟨_, pss_cons (ps_set (i := 1) sc_law_told_rows.nd rfl (.inl rfl) (pe_lst pa_nil))
      (pss_cons (ps_for PassesOwn.never rfl (pi_list (pv 0)) (pg_tup rfl (pgs_cons (pg_name (i := 2) sc_law_told_rows.nd rfl (.inl rfl)) (pgs_cons (pg_name (i := 3) sc_law_told_rows.nd rfl (.inl rfl)) pgs_nil)))
        (pss_one (ps_if (PW.pt (pw_and (pt_cmpR (op_neD hu) (pv 1) (pe_lst pa_nil) (nomark _))
            (pw_and (pt_cmpR op_eq (pe_ix ix_tup (pe_ix ix_list (pv 1) (pe_un un_neg pe_int) (fun _ _ => rfl)) pe_int (fun _ _ => rfl)) (pv 2) (nomark _))
            (pw_and1 (pt_cmpR op_eq (pe_op op_add (pe_ix ix_tup (pe_ix ix_list (pv 1) (pe_un un_neg pe_int) (fun _ _ => rfl)) pe_int (fun _ _ => rfl)) pe_int) (pv 3) (nomark _))))))
          (pss_one (ps_asg (pe_tup (pa_cons (pv 2) (pa_cons (pe_ix ix_tup (pe_ix ix_list (pv 1) (pe_un un_neg pe_int) (fun _ _ => rfl)) pe_int (fun _ _ => rfl)) (pa_cons (pv 3) pa_nil)))) (pg_sub (pv 1) (pe_un un_neg pe_int) set_list)))
          (pss_one (ps_expr (pe_bm PySem.F.plainAttrs_list PySem.F.slot_list_append PySem.F.type_list_append mt_append (pv 1) (pa_cons (pe_tup (pa_cons (pv 2) (pa_cons (pv 3) (pa_cons (pv 3) pa_nil)))) pa_nil)))))))
      (pss_one (ps_ret (pv 1)))), ?_⟩
    refine ⟨Nat.zero_le _, fun o no => ?_⟩
    have Fo : F o = none := fh.free no
    have X0 : Ext M0 F H F (upd H o (.lst [])) := (Ext.refl fh).tmp no
    have ho0 : upd H o (.lst []) o = some (.lst []) := upd_same
    revert X0 ho0
    generalize upd H o (.lst []) = H0
    intro X0 ho0
    refine ⟨_, rfl, a, rfl, ⟨xs, SqL.of (X0.fh _ _ ha)⟩, for_list (K := K) (a := a) (xs := xs) (fun i σ H' => ∃ F' acc out y2 y3, σ = [some (.ref a), some (.ref o), y2, y3] ∧ Ext M0 F H F' H' ∧ F' o = none ∧ H' o = some (.lst acc) ∧ Paired (kRow.is F') acc out ∧ ToldOf (ps.take i) out)
      ⟨F, [], [], none, none, rfl, X0, Fo, ho0, .nil, ToldOf.nil⟩ (fun i σ H' _ ⟨_, _, _, _, _, _, X, _⟩ => SqL.of (X.fh _ _ (X.ff _ _ ha))) ?_ ?_⟩
    · rintro i x σ H1 hi ⟨F1, acc, out, y2, y3, rfl, X1, fo, ho1, hac, ht⟩
      obtain ⟨k, hk, t, rfl, htk⟩ := pr_get hp hi
      have htk1 := X1.fh _ _ (X1.ff _ _ htk)
      have eT : ps.take (i + 1) = ps.take i ++ [k] := by rw [List.take_add_one, hk]; rfl
      have hik : i < ps.length := (List.getElem?_eq_some_iff.mp hk).1
      have hlt : ∀ p ∈ ps.take i, lt2 p k := fun p hpm => by
        obtain ⟨j, hj, e⟩ := List.getElem_of_mem hpm
        have hji : j < i := by
          have := List.length_take_le i ps
          omega
        rw [List.getElem_take] at e
        have ek : ps[i] = k := by
          have := List.getElem?_eq_getElem hik
          rw [hk] at this
          exact (Option.some.inj this).symm
        rw [← e, ← ek]
        exact List.pairwise_iff_getElem.mp hsort j i (by omega) hik hji
      have la : acc.length ≤ 1000000 := by
        have h1 := List.length_take_le' i ps
        have := ht.len
        rw [pr_len hac]
        omega
      rw [eT]
      refine ⟨t, _, rfl, SqT.of htk1, rfl, _, _, rfl, _, _, rfl, rfl, ?_⟩
      refine ⟨_, rfl, Nat.zero_le _, fun p np => ?_⟩
      have op : o ≠ p := ne_of_none ho1 np
      have X2 := X1.tmp (o := .lst []) np
      have ho2 : upd H1 p (.lst []) o = some (.lst acc) := by rw [upd_ne op]; exact ho1
      refine ⟨dL dRow out, dL dRow [], (enc_L enc_row).dp (X2.frz no fo ho2).fh (kL_new fo hac), (enc_L enc_row).dp (k := kL kRow) (Same.refl _) ⟨p, [], rfl, upd_same, .nil⟩, shaped_rows _, shaped_rows _, ?_⟩
      rw [eqv_rows]
      revert X2 ho2
      generalize upd H1 p (.lst []) = H2
      intro X2 ho2
      by_cases z : ∃ init r, out = init ++ [r] ∧ r.1 = k.1 ∧ r.2.2 + 1 = k.2
      · obtain ⟨init, r, rfl, e1, e2⟩ := z
        obtain ⟨us, u, rfl, hus, tu, rfl, htu⟩ := pr_concat hac
        have lu : us.length = init.length := pr_len hus
        have htu2 := X2.fh _ _ htu
        have ne : (!decide (init ++ [r] = [])) = true := by rw [decide_eq_false (by simp)]; rfl
        rw [ne]
        refine ⟨_, rfl, iteT ?_⟩
        refine ⟨_, rfl, _, rfl, o, _, -1, .ref tu, rfl, rfl, SqL.of ho2, atI_last us _, tu, _, 0, _, rfl, rfl, SqT.of htu2, rfl, _, rfl, rfl, _, rfl, ?_⟩
        rw [decide_eq_true (show V.int r.1 = V.int k.1 by rw [e1])]
        refine iteT ?_
        refine ⟨_, rfl, _, rfl, o, _, -1, .ref tu, rfl, rfl, SqL.of ho2, atI_last us _, tu, _, 2, _, rfl, rfl, SqT.of htu2, rfl, _, _, rfl, rfl, _, rfl, rfl, _, rfl, ?_⟩
        rw [decide_eq_true (show V.int (r.2.2 + 1) = V.int k.2 by rw [e2])]
        refine iteT ?_
        -- found[-1] = (house, found[-1][1], number)
        refine ⟨_, rfl, _, rfl, _, rfl, o, _, -1, .ref tu, rfl, rfl, SqL.of ho2, atI_last us _, tu, _, 1, _, rfl, rfl, SqT.of htu2, rfl, _, rfl, (by show 3 ≤ sizeLine; decide), fun t2 nt2 => ?_⟩
        have ot : o ≠ t2 := ne_of_none ho2 nt2
        refine ⟨_, rfl, _, rfl, o, us ++ [.ref tu], -1, us.length, rfl, rfl, by rw [upd_ne ot]; exact ho2, by rw [List.length_append, List.length_singleton]; exact ixN_last _, ?_⟩
        rw [set_last]
        have fo9 : upd F1 t2 (.tup [.int k.1, .int r.2.1, .int k.2]) o = none := by rw [upd_ne ot]; exact fo
        have sm : Same F1 (upd F1 t2 (.tup [.int k.1, .int r.2.1, .int k.2])) := same_upd (X2.ffree nt2)
        exact ⟨upd F1 t2 (.tup [.int k.1, .int r.2.1, .int k.2]), us ++ [.ref t2], init ++ [(k.1, r.2.1, k.2)], _, _, rfl, (X2.lay nt2).put (.inl no) fo9, fo9, upd_same, pr_snoc (pr_mono (fun _ _ z => kRow.mono sm z) hus) ⟨t2, rfl, upd_same⟩, ht.grow hlt e1 e2⟩
      · have hn : ∀ init r, out = init ++ [r] → ¬ (r.1 = k.1 ∧ r.2.2 + 1 = k.2) := fun init r e q => z ⟨init, r, e, q⟩
        have fin := ht.more hlt hn
        rcases List.eq_nil_or_concat out with c | ⟨init, r, c⟩
        · have ne : (!decide (out = [])) = false := by rw [decide_eq_true c]; rfl
          rw [ne]
          refine ⟨_, rfl, iteF (iteF ?_)⟩
          refine ⟨_, rfl, .inl ⟨rfl, _, SqL.of ho2⟩, _, rfl, _, rfl, _, rfl, (by show 3 ≤ sizeLine; decide), fun t2 nt2 => ?_⟩
          have ot : o ≠ t2 := ne_of_none ho2 nt2
          refine ⟨o, acc, _, rfl, rfl, by rw [upd_ne ot]; exact ho2, by rw [sizeLine_eq]; omega, ?_⟩
          have fo9 : upd F1 t2 (.tup [.int k.1, .int k.2, .int k.2]) o = none := by rw [upd_ne ot]; exact fo
          have sm : Same F1 (upd F1 t2 (.tup [.int k.1, .int k.2, .int k.2])) := same_upd (X2.ffree nt2)
          exact ⟨upd F1 t2 (.tup [.int k.1, .int k.2, .int k.2]), acc ++ [.ref t2], out ++ [(k.1, k.2, k.2)], _, _, rfl, (X2.lay nt2).put (.inl no) fo9, fo9, upd_same, pr_snoc (pr_mono (fun _ _ z => kRow.mono sm z) hac) ⟨t2, rfl, upd_same⟩, fin⟩
        · rw [List.concat_eq_append] at c
          subst c
          have hac' := hac
          obtain ⟨us, u, rfl, hus, tu, rfl, htu⟩ := pr_concat hac
          have htu2 := X2.fh _ _ htu
          have ne : (!decide (init ++ [r] = [])) = true := by rw [decide_eq_false (by simp)]; rfl
          rw [ne]
          refine ⟨_, rfl, iteT ?_⟩
          refine ⟨_, rfl, _, rfl, o, _, -1, .ref tu, rfl, rfl, SqL.of ho2, atI_last us _, tu, _, 0, _, rfl, rfl, SqT.of htu2, rfl, _, rfl, rfl, _, rfl, ?_⟩
          by_cases e1 : r.1 = k.1
          · have e2 : ¬ r.2.2 + 1 = k.2 := fun e2 => hn init r rfl ⟨e1, e2⟩
            rw [decide_eq_true (show V.int r.1 = V.int k.1 by rw [e1])]
            refine iteT ?_
            refine ⟨_, rfl, _, rfl, o, _, -1, .ref tu, rfl, rfl, SqL.of ho2, atI_last us _, tu, _, 2, _, rfl, rfl, SqT.of htu2, rfl, _, _, rfl, rfl, _, rfl, rfl, _, rfl, ?_⟩
            rw [decide_eq_false (show ¬ V.int (r.2.2 + 1) = V.int k.2 from fun z => e2 (V.int.inj z))]
            refine iteF ?_
            refine ⟨_, rfl, .inl ⟨rfl, _, SqL.of ho2⟩, _, rfl, _, rfl, _, rfl, (by show 3 ≤ sizeLine; decide), fun t2 nt2 => ?_⟩
            have ot : o ≠ t2 := ne_of_none ho2 nt2
            refine ⟨o, _, _, rfl, rfl, by rw [upd_ne ot]; exact ho2, by rw [sizeLine_eq]; omega, ?_⟩
            have fo9 : upd F1 t2 (.tup [.int k.1, .int k.2, .int k.2]) o = none := by rw [upd_ne ot]; exact fo
            have sm : Same F1 (upd F1 t2 (.tup [.int k.1, .int k.2, .int k.2])) := same_upd (X2.ffree nt2)
            exact ⟨upd F1 t2 (.tup [.int k.1, .int k.2, .int k.2]), _, _, _, _, rfl, (X2.lay nt2).put (.inl no) fo9, fo9, upd_same, pr_snoc (pr_mono (fun _ _ z => kRow.mono sm z) hac') ⟨t2, rfl, upd_same⟩, fin⟩
          · rw [decide_eq_false (show ¬ V.int r.1 = V.int k.1 from fun z => e1 (V.int.inj z))]
            refine iteF (iteF ?_)
            refine ⟨_, rfl, .inl ⟨rfl, _, SqL.of ho2⟩, _, rfl, _, rfl, _, rfl, (by show 3 ≤ sizeLine; decide), fun t2 nt2 => ?_⟩
            have ot : o ≠ t2 := ne_of_none ho2 nt2
            refine ⟨o, _, _, rfl, rfl, by rw [upd_ne ot]; exact ho2, by rw [sizeLine_eq]; omega, ?_⟩
            have fo9 : upd F1 t2 (.tup [.int k.1, .int k.2, .int k.2]) o = none := by rw [upd_ne ot]; exact fo
            have sm : Same F1 (upd F1 t2 (.tup [.int k.1, .int k.2, .int k.2])) := same_upd (X2.ffree nt2)
            exact ⟨upd F1 t2 (.tup [.int k.1, .int k.2, .int k.2]), _, _, _, _, rfl, (X2.lay nt2).put (.inl no) fo9, fo9, upd_same, pr_snoc (pr_mono (fun _ _ z => kRow.mono sm z) hac') ⟨t2, rfl, upd_same⟩, fin⟩
    · rintro σ H1 ⟨F1, acc, out, y2, y3, rfl, X1, fo, ho1, hac, ht⟩
      rw [pr_len hp, List.take_length] at ht
      exact ⟨_, rfl, q F1 H1 o acc out X1 no fo ho1 hac ht⟩
end
end Rw
namespace Rw
open PySem PySem.Spec PyProof.Rows L2
/-! ### D.__init__(self, ..) of an own class over ValueError without one -/
/-- what the class named must say -/
structure BaseI (K : PySem.W.Frag) (D : Addr) (mc : Value) : Prop where
  rd : PySem.W.readsIn K D mc = true
  ga : PySem.W.specialIn K (.ref D) "__getattribute__" = some (some (.builtin "type.__getattribute__"))
  fi : PySem.W.findCls K (.ref D) mc "__init__" = some (.val (.builtin "ValueError.__init__"))
section
variable {X : Cx} {e : Expr} {es : List Expr} {ta : TA} {x : Str} {D : Addr} {mc : Value} {p1 p2 pos : Pos}
theorem pe_baseI {pl : Sem Bool} (hg : Gl X x) (hm : X.mg x = some (.ref D)) (B : BaseI X.K D mc) (ha : PA X (e :: es) ta)
    (hc : eval (.Call (.Attribute (.Name x p1) "__init__" p2) (e :: es) [] pos) X.env = (do
      let b ← eval (.Name x p1) X.env
      standAt p2.atName
      let (f, one) ← holding [b] (getMethod b "__init__" pl)
      callWith pos f one (backTo pos (starEach (e :: es) X.env)) (backToKw pos (keywordEach [] X.env))) := by rfl)
    (he : starEach (e :: es) X.env = (false, eval e X.env) :: starEach es X.env := by rfl) (hpl : (backTo pos (starEach es X.env)).any (·.1) = false := by rfl) (hdb : (x == ("__debug__" : Str)) = false := by decide) :
    PE X (.Call (.Attribute (.Name x p1) "__init__" p2) (e :: es) [] pos) (tVeI X.K ta) := by
  constructor
  intro pins s σ H Q I h
  refine PySem.W.methodCall_KW (ld_glob I hg hm ?_ hdb) hc
  refine PySem.W.method_cls I.kIn B.ga (PySem.W.cls_value I.kIn B.rd B.fi (by decide +kernel) ?_)
  show wpAny _ _ (callWith pos (Value.builtin "ValueError.__init__") [] (backTo pos (starEach (e :: es) X.env)) []) _ _ _
  refine PyProof.Rows.callWith_method1 (thn (ha.run pos pins _ σ H _ (I.tok _) h) ?_) he hpl
  rintro us s1 ⟨vs, H1, I1, r1, a, C, ws, ev, hl, T, ea, q⟩
  subst ev
  cases r1 with
  | cons ra rw' =>
    rename_i u0 ur
    obtain rfl : u0 = Value.ref a := ra
    refine oinit_ok T I1 ea ?_ fun s' J => ⟨.non, H1, J, rfl, q⟩
    have := Paired.length rw'
    rw [sizeLine_eq]
    omega
end
/-! ### isinstance(e, c) of a caught exception of an own class, with or without fields -/
def exB (K : PySem.W.Frag) (D : Addr) : Bool := decide (PySem.W.findIn K (.ref D) "__getattribute__" = some (some (.builtin "BaseException.__getattribute__"))) && (decide (PySem.W.findIn K (.ref D) "__getattr__" = some none) &&
  (decide (PySem.W.subIn K (.ref D) (.type "BaseException") = some true) && (PySem.W.hasDictIn K D && (decide (PySem.W.findIn K (.ref D) "__class__" = some (some (.builtin "object.__class__"))) &&
  (decide (PySem.W.specialIn K (.builtin "object.__class__") "__get__" = some (some (.builtin "getset_descriptor.__get__"))) && (decide (PySem.W.takesIn K (.builtin "object.__class__") = some true) &&
  (decide (PySem.W.mroIn K D (.type "object") = some true) && (PySem.W.clsIn K D).isSome)))))))
/-- isinstance(e, c): e stands at a, its class is D, its dict d -/
def rIsX (K : PySem.W.Frag) (a : Addr) (cls : Value) (d : Option Addr) : List V → Hp → VK → Prop := fun xs H Q => ∃ (D : Addr) (c : V) (cv : Value) (b : Bool), cls = .ref D ∧ exB K D = true ∧ xs = [.ref a, c] ∧ (∀ u, RelV c u → u = cv) ∧
  PySem.W.kitOne K (.ref D) cv = some b ∧ (∀ dd, d = some dd → ∃ fs, H dd = some (.xd fs)) ∧ Q (.bl b) H
theorem call_isX {X : Cx} {a : Addr} {cls : Value} {d : Option Addr} {oe : Obj} {pn : List (Addr × Obj)} (hz : Zc cls d oe) (hf : ∃ vs, oe.data = .fields vs) : CallR (X.suite a ((a, oe) :: pn)) (.builtin "isinstance") (rIsX X.K a cls d) := by
  intro pins s σ H xs us Q I r h
  obtain ⟨D, c, cv, b, rfl, hD, rfl, hcv, e, hd, q⟩ := h
  unfold exB at hD
  simp only [Bool.and_eq_true, decide_eq_true_eq] at hD
  obtain ⟨g1, g2, g3, g4, g5, g6, g7, g8, g9⟩ := hD
  cases r with
  | cons rx rr =>
    cases rr with
    | cons rt rr =>
      cases rr
      cases rx
      have ec := hcv _ rt
      subst ec
      have hget := (I.pin (a, oe) (List.mem_append.mpr (.inl List.mem_cons_self))).1
      obtain ⟨vs, hv⟩ := hf
      obtain ⟨oc, od, oda, osl⟩ := oe
      obtain ⟨h1, h2⟩ := hz
      dsimp only at h1 h2 hv
      subst h1 h2 hv
      have J : ∃ oo, PySem.W.InstAt s.heap a ⟨.ref D, od, .fields vs, osl⟩ D oo := by
        cases od with
        | none => exact ⟨none, hget, rfl, rfl, trivial⟩
        | some dd =>
          obtain ⟨fs, hdd⟩ := hd dd rfl
          have hx : ObjOk X.prog X.w H s.heap dd (.xd fs) := I.hok dd _ hdd
          obtain ⟨mA, ⟨ob, es, ep, ho, hr⟩, _⟩ := hx
          exact ⟨some ob, hget, rfl, rfl, ho⟩
      obtain ⟨oo, J⟩ := J
      exact PySem.W.kia_one (PySem.W.kitx_exc g9 g1 g2 g3 g5 g6 g7 g8) I.kIn J e (fun z => nomatch z) fun tk => ⟨.bl b, H, I.kept (t' := tk) fun _ _ z => z, rfl, q⟩
/-! ### xs.count(y) of data -/
def rCountD (K : PySem.W.Frag) : V → List V → Hp → VK → Prop := fun x xs H Q => ∃ (a : Addr) (y : V) (d : PyData) (ds : List PyData), x = V.ref a ∧ xs = [y] ∧ Dp K H (V.ref a) (.list ds) ∧ Dp K H y d ∧
  SeqAt.shaped (.list ds) = true ∧ SeqAt.shaped d = true ∧ Q (.int (ds.countP (fun z => PyData.eqv z d) : Nat)) H
theorem mt_countD {X : Cx} (hu : X.A.units + 65 < cLine) : MtR X "list.count" (rCountD X.K) := by
  intro pins s σ H x xs v us Q I rx rxs h
  obtain ⟨a, y, d, ds, rfl, rfl, hl, hy, sl, sd, q⟩ := h
  cases rx
  cases rxs with
  | cons ry rt =>
    rename_i uy ut
    cases rt
    obtain ⟨bs, r1⟩ := Dp.reads I d y uy hy ry
    have lay : PyData.canLayAll0 ds = true := SeqAt.canLay_of_shaped sl
    cases hl with
    | lst hs ha =>
      obtain ⟨its, rv, ⟨⟨cls, dd, data, sls⟩, n, ho, hc, hdn, hdt⟩, hlen⟩ := I.list hs
      simp only at hc hdt
      subst hc hdt
      obtain ⟨as, h4⟩ := Dp.readsAll I ds _ its ha rv
      have em : its.map (SeqAt.readOf s.heap) = ds := SeqAt.readsAll_map ds its as lay h4
      refine call_meets PySem.F.slot_list_count ⟨_, ho, rfl⟩ PySem.F.entry_list_count (PySem.F.args_list_count_2 _ _)
        (SeqAt.list_countAt a its.toArray n dd sls uy (fun u => PyData.eqv (SeqAt.readOf s.heap u) d)) ⟨ho, SeqAt.items_eqAt (vs := its.toArray) (show ReadsAll s.heap its.toArray.toList ds as from h4) r1 lay (SeqAt.canLay_of_shaped sd) (room_in_shaped sd hu), ?_⟩
      have ec : its.toArray.toList.countP (fun u => PyData.eqv (SeqAt.readOf s.heap u) d) = ds.countP (fun z => PyData.eqv z d) := by
        rw [← em, List.countP_map]
        rfl
      rw [ec]
      exact ⟨.int (ds.countP (fun z => PyData.eqv z d) : Nat), H, I.tok _, ⟨_, rfl⟩, q⟩
end Rw
set_option maxHeartbeats 2000000
namespace Rw
open PySem PySem.Spec PyProof.Rows L2
/-! ### a lambda as a value: no parameter, or one with a written int as its default -/
inductive Df where
  | no
  | one (b : Str) (z : Int)
structure Lam where
  ps : Arguments
  body : Expr
  sc : Scope
  df : Df
/-- the lambda's object: its code object at c, its defaults dV -/
def FnO (X : Cx) (l : Lam) (f c : Addr) (dV : Value) : HO := .ext fun h => ∃ (pm doc ctv : Value), h.get? f = some (PySem.W.kdv_obj "<lambda>" (X.env.qual ++ "<lambda>") l.ps (.expr l.body) l.sc (cloFrom X.env.cells l.sc.names []) dV doc pm c ctv)
/-- its defaults -/
def DfAt (H : Hp) : Df → Value → Prop
  | .no, dV => dV = .none
  | .one _ z, dV => ∃ T, dV = .ref T ∧ H T = some (.tup [.int z])
/-- at f stands the lambda l, made in X -/
def LamAt (X : Cx) (l : Lam) (H : Hp) (f : Addr) : Prop := ∃ (c : Addr) (dV : Value), H f = some (FnO X l f c dV) ∧ H c = some (LamX.CodeO c (X.env.qual ++ "<lambda>")) ∧ DfAt H l.df dV
/-- what the making of a lambda does: the table at P grows, else things are new -/
structure Grow (P : Addr) (H H' : Hp) : Prop where
  keep : ∀ b o, H b = some o → b ≠ P → H' b = some o
  tr : ∀ b, H b ≠ none → H' b ≠ none
theorem Grow.refl {P : Addr} {H : Hp} : Grow P H H := ⟨fun _ _ h _ => h, fun _ h => h⟩
theorem Grow.trans {P : Addr} {H H1 H2 : Hp} (a : Grow P H H1) (b : Grow P H1 H2) : Grow P H H2 := ⟨fun c o h n => b.keep c o (a.keep c o h n) n, fun c h => b.tr c (a.tr c h)⟩
theorem Grow.new {P p : Addr} {H : Hp} {o : HO} (h : H p = none) : Grow P H (upd H p o) := ⟨fun b u e _ => by rw [upd_ne (ne_of_none e h)]; exact e, fun b e => by
  by_cases hb : b = p
  · rw [hb, upd_same]; simp
  · rw [upd_ne hb]; exact e⟩
theorem Grow.ext {P : Addr} {F H H' : Hp} (s : Same F H) (f : F P = none) (g : Grow P H H') : Ext (fun b => b = P) F H F H' :=
  ⟨Same.refl F, fun b o e => g.keep b o (s b o e) (ne_of_none e f), fun b o e m => g.keep b o e m, g.tr, fun _ _ => rfl⟩
section
variable {X : Cx} {pins : List (Addr × Obj)} {σ : L2.St} {H : Hp} {s : Shared}
theorem fnO_ok {l : Lam} {f c : Addr} {dV : Value} {h : Heap} (e : ∃ (pm doc ctv : Value), h.get? f = some (PySem.W.kdv_obj "<lambda>" (X.env.qual ++ "<lambda>") l.ps (.expr l.body) l.sc (cloFrom X.env.cells l.sc.names []) dV doc pm c ctv)) : ObjOk X.prog X.w H h f (FnO X l f c dV) := by
  obtain ⟨pm, doc, ctv, e⟩ := e
  exact ⟨⟨pm, doc, ctv, e⟩, ⟨_, e⟩, fun h1 h2 ⟨a, b, c, z⟩ k => ⟨a, b, c, k _ z⟩⟩
/-- the tail of the making: the defaults are known -/
theorem lam_tail {l : Lam} {c P : Addr} {dV : Value} {pos : Pos} {E : Value → Shared → Prop} {Q : Value → Shared → Prop} (I : Inv X pins σ H s) (TB : LamX.TabB X.base X.mg c P) (hcode : X.env.code = .ref c) (hT : LamX.TabS H P (X.env.qual ++ "<lambda>"))
    (hfree : ∀ y ∈ l.sc.names, y.2 = .free → ∃ c, X.env.cells.lookup y.1 = some c)
    (q : ∀ (f c' : Addr) (H1 : Hp) (s' : Shared), Inv X pins σ H1 s' → Grow P H H1 → LamX.TabS H1 P (X.env.qual ++ "<lambda>") → H f = none → H1 f = some (FnO X l f c' dV) → H1 c' = some (LamX.CodeO c' (X.env.qual ++ "<lambda>")) → Q (.ref f) s') :
    wpAny (model X.prog X.w) X.A (makeTail "<lambda>" (X.env.qual ++ "<lambda>") l.ps (.expr l.body) l.sc X.env dV .none none pos pos.line) Q E s := by
  obtain ⟨ps, hP, ht, ha⟩ := hT
  have bP : s.heap.BuiltinsAt X.mg P := TB.bm.keeps I.bk
  have hP' : s.heap.get? P = some { cls := .none, data := .fields ps } := I.hok P _ hP
  cases hc : codeAmong pos ps.toList with
  | none =>
    refine PySem.W.kdv_makeTail (mg := X.mg) (c := c) (P := P) (ps := ps) (closure_ok hfree) I.ok.glob (I.mod.glob.keeps I.bk) hcode (TB.code.keeps I.bk) hP' ht hc TB.gP bP ?_
    intro c' ctv doc h' tk hx hge hlt hrec htb
    obtain ⟨c2, oc, vs, t, e2, hoc, hd, hv⟩ := hrec
    cases e2
    have hsz : s.heap.objs.size ≤ h'.objs.size := Nat.le_trans hge (Nat.le_of_lt hlt)
    have nC : H c' = none := I.hok.fresh hge
    have nPc : P ≠ c' := ne_of_none hP nC
    have I1 := LamX.inv_table (t' := tk) (q := X.env.qual ++ "<lambda>") (more := #[rawInt pos.line, rawInt pos.col, .ref c']) (h' := h') I hP hx htb hge ⟨oc, vs, t, hoc, hd, hv⟩
    have g1 : Grow P H (upd (upd H P (.tbl (ps ++ #[rawInt pos.line, rawInt pos.col, .ref c']))) c' (LamX.CodeO c' (X.env.qual ++ "<lambda>"))) := by
      refine ⟨fun b o e n => by rw [upd_ne (ne_of_none e nC), upd_ne n]; exact e, fun b e => ?_⟩
      by_cases hb : b = c'
      · rw [hb, upd_same]; simp
      · rw [upd_ne hb]
        by_cases hb2 : b = P
        · rw [hb2, upd_same]; simp
        · rw [upd_ne hb2]; exact e
    have I2 := I1.laid (h' := h'.push (PySem.W.kdv_obj "<lambda>" (X.env.qual ++ "<lambda>") l.ps (.expr l.body) l.sc (cloFrom X.env.cells l.sc.names []) dV doc ((X.mg "__name__").getD .none) c' ctv)) (a := h'.objs.size) (o := FnO X l h'.objs.size c' dV) (t' := tk)
      (fun b u e => Heap.get?_push_of_some _ e) (Nat.le_refl _) (fnO_ok ⟨_, _, _, Heap.get?_push_size _ rfl⟩)
    have nf := I1.hok.fresh (Nat.le_refl h'.objs.size)
    have hcf : c' ≠ h'.objs.size := Nat.ne_of_lt hlt
    have hPf : P ≠ h'.objs.size := Nat.ne_of_lt (Nat.lt_of_lt_of_le (Heap.lt_size hP') hsz)
    refine q h'.objs.size c' _ _ I2 (g1.trans (Grow.new nf)) ⟨ps ++ #[rawInt pos.line, rawInt pos.col, .ref c'], ?_, ?_, fun p' cv hcv => ?_⟩ (I.hok.fresh hsz) upd_same ?_
    · rw [upd_ne hPf, upd_ne nPc, upd_same]
    · have eL : (ps ++ #[rawInt pos.line, rawInt pos.col, .ref c']).toList = ps.toList ++ [rawInt pos.line, rawInt pos.col, .ref c'] := by simp
      rw [eL]
      exact PySem.TriplesOk_snoc _ _ _ _ ht
    · have eL : (ps ++ #[rawInt pos.line, rawInt pos.col, .ref c']).toList = ps.toList ++ [rawInt pos.line, rawInt pos.col, .ref c'] := by simp
      rw [eL] at hcv
      rcases LamX.among_app _ ht hcv with z | z
      · obtain ⟨c0, e1, e2⟩ := ha p' cv z
        have n0 : c0 ≠ P := fun e => by
          rw [e, hP] at e2
          exact LamX.codeO_ne ps (Option.some.inj e2).symm
        exact ⟨c0, e1, (g1.trans (Grow.new nf)).keep _ _ e2 n0⟩
      · exact ⟨c', z, by rw [upd_ne hcf, upd_same]⟩
    · rw [upd_ne hcf, upd_same]
  | some cv =>
    obtain ⟨c', e, hco⟩ := ha pos cv hc
    subst e
    refine PySem.W.kdv_makeTailHit (mg := X.mg) (c := c) (P := P) (ps := ps) (closure_ok hfree) I.ok.glob (I.mod.glob.keeps I.bk) hcode (TB.code.keeps I.bk) hP' ht hc bP ?_
    intro ctv doc h' tk hx hsz
    have J : Inv X pins σ H { s with heap := h', toks := tk } := I.kept hx
    have nf := J.hok.fresh (Nat.le_refl h'.objs.size)
    have I2 := J.laid (h' := h'.push (PySem.W.kdv_obj "<lambda>" (X.env.qual ++ "<lambda>") l.ps (.expr l.body) l.sc (cloFrom X.env.cells l.sc.names []) dV doc ((X.mg "__name__").getD .none) c' ctv)) (a := h'.objs.size) (o := FnO X l h'.objs.size c' dV) (t' := tk)
      (fun b u e => Heap.get?_push_of_some _ e) (Nat.le_refl _) (fnO_ok ⟨_, _, _, Heap.get?_push_size _ rfl⟩)
    have tab : LamX.TabS (upd H h'.objs.size (FnO X l h'.objs.size c' dV)) P (X.env.qual ++ "<lambda>") := LamX.TabS.ext ⟨ps, hP, ht, ha⟩ (same_upd nf)
    exact q h'.objs.size c' _ _ I2 (Grow.new nf) tab nf upd_same (same_upd nf _ _ hco)
end
end Rw
namespace Rw
open PySem PySem.Spec PyProof.Rows L2
/-- the parameters say what the lambda's defaults are -/
def DfIs (l : Lam) : Prop := match l.df with
  | .no => l.ps.defaults = [] ∧ l.ps.kw_defaults = []
  | .one _ z => (∃ j p, l.ps.defaults = [.Constant (.int z) j p]) ∧ l.ps.kw_defaults = []
def tLamV (X : Cx) (P : Addr) (l : Lam) : TE := fun _ H Q => LamX.TabS H P (X.env.qual ++ "<lambda>") ∧ ∀ (f : Addr) (H1 : Hp), Grow P H H1 → LamX.TabS H1 P (X.env.qual ++ "<lambda>") → H f = none → LamAt X l H1 f → Q (.ref f) H1
theorem pe_lamV {X : Cx} {l : Lam} {c P : Addr} {ps : Arguments} {body : Expr} {sc : Scope} {pos : Pos} (e1 : l.ps = ps) (e2 : l.body = body) (e3 : l.sc = sc) (TB : LamX.TabB X.base X.mg c P) (hcode : X.env.code = .ref c)
    (hfree : ∀ y ∈ l.sc.names, y.2 = .free → X.env.scope.names.lookup y.1 = some .cell ∨ X.env.scope.names.lookup y.1 = some .free) (hdf : DfIs l) : PE X (.Lambda ps body sc pos) (tLamV X P l) := by
  subst e1 e2 e3
  constructor
  intro pins s σ H Q I h
  obtain ⟨hT, h⟩ := h
  have hfr : ∀ y ∈ l.sc.names, y.2 = .free → ∃ c, X.env.cells.lookup y.1 = some c := fun y hy e => (hfree y hy e).elim (fun k => I.ok.has _ (.inl k)) fun k => I.ok.has _ (.inr k)
  unfold DfIs at hdf
  cases hd : l.df with
  | no =>
    rw [hd] at hdf
    obtain ⟨d1, d2⟩ := hdf
    refine PySem.W.kla_eval ?_ ?_
    · rw [defaultsOf_eq, d1, d2]; rfl
    · rw [makeFunction_eq]
      simp only [List.zip_nil_right, List.filterMap_nil, List.isEmpty_nil, if_true, pure_bind]
      refine lam_tail I TB hcode hT hfr fun f c' H1 s' I1 g t hf e1 e2 => ⟨.ref f, H1, I1, rfl, h f H1 g t hf ⟨c', .none, e1, e2, ?_⟩⟩
      rw [hd]
      exact rfl
  | one b z =>
    rw [hd] at hdf
    obtain ⟨⟨j, p, d1⟩, d2⟩ := hdf
    refine PySem.W.kdv_lam ?_ d2 ?_
    · rw [d1]; rfl
    · rw [d1]
      refine PySem.W.kdv_all1 (thn ((pe_int (X := X) (i := z)).run pins s σ H (fun v H1 => v = .int z ∧ H1 = H) I ⟨rfl, rfl⟩) fun v0 s1 hv => ?_)
      obtain ⟨w1, H0, I1, r1, rfl, rfl⟩ := hv
      refine PySem.W.kdv_all0 ?_
      rw [makeFunction_eq]
      simp only [List.zip_nil_right, List.filterMap_nil, List.isEmpty_nil, if_true, pure_bind, List.isEmpty_cons, Bool.false_eq_true, if_false]
      refine wpAny_bind (wpAny_newTextTuple ?_)
      have hn : H0 s1.heap.objs.size = none := I1.hok.fresh (Nat.le_refl _)
      have I2 := I1.laid (h' := s1.heap.push { cls := .type "tuple", data := .seq [v0].toArray }) (a := s1.heap.objs.size) (o := .tup [.int z]) (t' := s1.toks) (fun b u e => Heap.get?_push_of_some _ e) (Nat.le_refl _)
        ⟨by show 1 ≤ sizeLine; rw [sizeLine_eq]; omega, [v0], .cons r1 .nil, ⟨_, Heap.get?_push_size _ rfl, rfl, _, rfl⟩⟩
      refine lam_tail I2 TB hcode (hT.ext (same_upd hn)) hfr fun f c' H1 s' I3 g t hf e1 e2 => ⟨.ref f, H1, I3, rfl, h f H1 ((Grow.new hn).trans g) t ?_ ⟨c', _, e1, e2, ?_⟩⟩
      · exact (same_upd hn).free hf
      · rw [hd]
        refine ⟨_, rfl, g.keep _ _ upd_same fun z => ?_⟩
        obtain ⟨ps, hp, _⟩ := hT
        rw [z, hp] at hn
        cases hn
end Rw
namespace Rw
open PySem PySem.Spec PyProof.Rows L2
/-- how the arguments of a call without any bind -/
def DfB (l : Lam) : Prop := match l.df with
  | .no => ∀ (q : Str) (cl : List (Str × Addr)) (doc pm cv ctv : Value), bindArgs (PySem.W.kdv_fn "<lambda>" q l.ps (.expr l.body) l.sc cl .none doc pm cv ctv) ⟨[], []⟩ = pure []
  | .one b _ => ∀ (q : Str) (cl : List (Str × Addr)) (T : Addr) (doc pm cv ctv : Value), ∃ k : Option (Array Value) → Sem (List (Str × Value)),
      bindArgs (PySem.W.kdv_fn "<lambda>" q l.ps (.expr l.body) l.sc cl (.ref T) doc pm cv ctv) ⟨[], []⟩ = seqItems? (.ref T) >>= k ∧ ∀ v, k (some #[v]) = pure [(b, v)]
def lamOkB (N : List Str) (sc : Scope) (l : Lam) : Bool := decide (l.sc.kind = .function) && (!l.sc.isCoroutine && (!l.sc.isGenerator && ((l.sc.names.all fun y => !decide (y.2 = .cell) && ((!decide (y.2 = .local) || !N.contains y.1) && (!decide (y.2 = .free) || (decide (sc.names.lookup y.1 = some .cell) || decide (sc.names.lookup y.1 = some .free))))) &&
  (match l.df with | .no => true | .one b _ => decide (l.sc.names.lookup b = some .local)))))
structure LamOk (N : List Str) (sc : Scope) (l : Lam) : Prop where
  kind : l.sc.kind = .function
  co : l.sc.isCoroutine = false
  gen : l.sc.isGenerator = false
  cell : ∀ y ∈ l.sc.names, y.2 ≠ .cell
  loc : ∀ y ∈ l.sc.names, y.2 = .local → y.1 ∉ N
  free : ∀ y ∈ l.sc.names, y.2 = .free → sc.names.lookup y.1 = some .cell ∨ sc.names.lookup y.1 = some .free
  par : match l.df with | .no => True | .one b _ => l.sc.names.lookup b = some .local
theorem lamOk_by {N : List Str} {sc : Scope} {l : Lam} (h : lamOkB N sc l = true) : LamOk N sc l := by
  unfold lamOkB at h
  simp only [Bool.and_eq_true, decide_eq_true_eq, List.all_eq_true, Bool.or_eq_true, Bool.not_eq_true', decide_eq_false_iff_not] at h
  obtain ⟨h1, h2, h3, h4, h5⟩ := h
  refine ⟨h1, h2, h3, fun y hy => (h4 y hy).1, fun y hy e z => ?_, fun y hy e => ?_, ?_⟩
  · rcases (h4 y hy).2.1 with q | q
    · exact q e
    · have := List.contains_iff_mem.mpr z
      rw [q] at this
      cases this
  · rcases (h4 y hy).2.2 with q | q
    · exact absurd e q
    · exact q
  · revert h5
    cases l.df with
    | no => exact fun _ => trivial
    | one b z => exact fun q => of_decide_eq_true q
/-- the lambda's frame -/
abbrev lEnv (X : Cx) (l : Lam) (L f c : Addr) : Env := PySem.W.envX (X.env.qual ++ "<lambda>") l.sc L f (.ref c) (cloFrom X.env.cells l.sc.names [])
/-- where the lambda's body stands, entered at s from the frames outer -/
def lCx (X : Cx) (A : Around) (outer : List Env) (s : Shared) (H : Hp) (E : XK) (l : Lam) (f c : Addr) : Cx where
  prog := X.prog
  w := X.w
  K := X.K
  mg := X.mg
  base := X.base
  A := A.deeper (lEnv X l s.heap.objs.size f c)
  N := X.N
  s_0 := s
  H_0 := H
  env := lEnv X l s.heap.objs.size f c
  outer := outer
  stack := lEnv X l s.heap.objs.size f c :: outer
  ex := []
  fn := fun _ => false
  calm := true
  pn := []
  xe := fun e t => wpAny (model X.prog X.w) (A.deeper (lEnv X l s.heap.objs.size f c)) (leaving (lEnv X l s.heap.objs.size f c) e) (fun _ u => L2.CX X.prog X.w outer H s E e u) (fun e' u => L2.CX X.prog X.w outer H s E e' u) t
section
variable {X : Cx} {pins : List (Addr × Obj)} {σ : L2.St} {H HZ : Hp} {s s1 : Shared}
theorem lam_in {A : Around} {outer : List Env} {E : XK} {l : Lam} {f c' : Addr} {h₁ : Heap} {tk : Nat} {bn : List (Str × Value)} (I : Inv X pins σ H s) (L : LamOk X.N X.env.scope l) (e0 : Env0 X.prog X.w X.K X.mg X.base A outer s1 HZ) (hd : A.handled = none)
    (un : Un (frs X.stack) [] H HZ s.heap s1.heap) (hns : h₁.Ns s1.heap.objs.size fun y => bn.reverse.lookup y) (kp : ∀ b o, s1.heap.get? b = some o → h₁.get? b = some o) :
    Inv (lCx X A outer s1 HZ E l f c') [] σ HZ { s1 with heap := h₁, toks := tk } := by
  have has : ∀ y ∈ l.sc.names, y.2 = .free → ∃ c, X.env.cells.lookup y.1 = some c := fun y hy e => (L.free y hy e).elim (fun k => I.ok.has _ (.inl k)) fun k => I.ok.has _ (.inr k)
  have cm : ∀ {y c}, (cloFrom X.env.cells l.sc.names []).lookup y = some c → X.env.cells.lookup y = some c := by
    intro y c e
    rcases cloFrom_mem (PySem.mem_of_lookup e) with hm | ⟨h1, h2⟩
    · cases hm
    · obtain ⟨c1, hc⟩ := has _ h1 rfl
      have hc' : X.env.cells.lookup y = some c1 := hc
      have e2 : c = c1 := by
        rw [h2, hc'] <;> rfl
      rw [e2]
      exact hc'
  have look : ∀ {y}, l.sc.names.lookup y = some .free → ∃ c, (cloFrom X.env.cells l.sc.names []).lookup y = some c := fun {y} hl => mem_lookup (cloFrom_has (cells := X.env.cells) (acc := []) (PySem.mem_of_lookup hl))
  have cellK : ∀ {c : Addr} {v : Option Value}, H c = none → s.heap.IsCell c v → h₁.IsCell c v := by
    rintro c v n ⟨o, ho, hd⟩
    obtain ⟨sl, q⟩ := un.any ho n (by simp)
    exact ⟨_, kp _ _ q, hd⟩
  have noA : ∀ b : Addr, b ∉ (lCx X A outer s1 HZ E l f c').ex := fun b z => absurd (show b ∈ ([] : List Addr) from z) (by simp)
  have ok : (lCx X A outer s1 HZ E l f c').Ok := by
    refine ⟨e0.mod, L.kind, rfl, rfl, Nat.le_refl _, fun y z c e1 e2 => I.ok.inj y z c (cm e1) (cm e2), ?_, fun y c z _ => ?_, fun _ => hd, Around.frames_deeper e0.frames, .inr ⟨rfl, rfl⟩, fun b z => absurd z (noA b), e0.bs, e0.bsz, fun b _ _ => noA b, fun b z => absurd z (noA b), e0.funs, e0.frf⟩
    · intro y hy
      rcases (show l.sc.names.lookup y = some .cell ∨ l.sc.names.lookup y = some .free from hy) with hy | hy
      · exact absurd rfl (L.cell _ (PySem.mem_of_lookup hy))
      · exact look hy
    · have z : false = true := z
      cases z
  refine ⟨ok, rfl, e0.bare, Un.kept kp, ⟨_, hns, fun i y v e1 e2 e3 => ?_⟩, fun y c e => ?_, e0.hok.fresh (Nat.le_refl _), fun y c e => ?_, fun q hq => absurd (show q ∈ ([] : List (Addr × Obj)) ++ [] from hq) (by simp), e0.hok.kept kp, I.len⟩
  · have e1' : X.N[i]? = some y := e1
    rcases (show Vis l.sc y from e3) with k | k | k
    · exact absurd (List.mem_of_getElem? e1') (L.loc _ (PySem.mem_of_lookup k) rfl)
    · exact absurd rfl (L.cell _ (PySem.mem_of_lookup k))
    · obtain ⟨m, hn, hl⟩ := I.loc
      have fr := L.free _ (PySem.mem_of_lookup k) rfl
      obtain ⟨w', r, q⟩ := hl i y v e1 e2 (fr.elim (fun k => .inr (.inl k)) fun k => .inr (.inr k))
      obtain ⟨c2, h2⟩ := look k
      refine ⟨w', r, .inr ⟨.inr k, c2, h2, ?_⟩⟩
      have c1 := cm h2
      rcases q with ⟨k', _⟩ | ⟨_, c3, e', z⟩
      · have k' : X.env.scope.names.lookup y = some .local := k'
        rcases fr with k2 | k2 <;> rw [show X.env.scope.names.lookup y = _ from k2] at k' <;> cases k'
      · rw [c1] at e'
        cases e'
        exact cellK (I.freeC y _ c1) z
  · obtain ⟨w', z⟩ := I.cell y c (cm e)
    exact ⟨w', cellK (I.freeC y c (cm e)) z⟩
  · obtain ⟨v, o, ho, hd⟩ := I.cell y c (cm e)
    exact un.free c o ho (I.freeC y c (cm e)) (by simp)
/-- x(), within a def that got the lambda and was entered at s -/
theorem pe_actV {CXg : CXT} {Eg : XK} {Ng : List Str} {qg : Str} {sg : Scope} {g : Addr} {cdg : Value} {k i : Nat} {a : Str} {pn : List (Addr × Obj)} {xe : Value → Shared → Prop} {W : WX} {E : XK} {p1 p2 : Pos} {LS : List Lam} {tb : Lam → TE}
    (I : Inv X pins σ H s) (tk : Takes ((cxOf CXg X.prog X.w X.K X.mg X.base Ng qg sg g cdg X.A X.stack s H Eg).tr pn xe) W) (hr : Room (k + 1) (X.A.deeper (envOfC qg sg s.heap.objs.size g cdg)))
    (L : ∀ l ∈ LS, LamOk X.N X.env.scope l ∧ DfB l ∧ ∀ (A : Around) (outer : List Env) (s : Shared) (H : Hp) (f c' : Addr), Room k (A.deeper (lEnv X l s.heap.objs.size f c')) → PE (lCx X A outer s H E l f c') l.body (tb l))
    (hN : Ng[i]? = some a) (hv : Vis sg a) (hd : (a == ("__debug__" : Str)) = false := by decide) (hcd : (a == ("__classdict__" : Str)) = false := by decide) :
    PE ((cxOf CXg X.prog X.w X.K X.mg X.base Ng qg sg g cdg X.A X.stack s H Eg).tr pn xe) (.Call (.Name a p1) [] [] p2)
      (fun σZ HZ Q => (∀ cls d H', E cls d H' → W cls d σZ H') ∧ ∃ l ∈ LS, ∃ f, σZ[i]? = some (some (.ref f)) ∧ LamAt X l HZ f ∧ tb l σ HZ Q) := by
  constructor
  intro pinsZ sZ σZ HZ Q IZ h
  obtain ⟨hW, l, hl, f, hs, ⟨c', dV, hfo, hc, hdv⟩, ht⟩ := h
  obtain ⟨Lo, Lb, hbody⟩ := L l hl
  refine wpAny_Call_Name_kw (thn ((pe_var (pos := p1) (i := i) hN hv hd hcd).run pinsZ sZ σZ HZ (fun v H1 => v = .ref f ∧ H1 = HZ) IZ ⟨.ref f, hs, rfl, rfl⟩) ?_)
  rintro u s1 ⟨v, H1, I1, r1, rfl, rfl⟩
  obtain rfl : u = Value.ref f := r1
  obtain ⟨⟨pm, doc, ctv, of1⟩, _, _⟩ := I1.hok f _ hfo
  refine PySem.W.callWith_F0 ⟨_, _, _, _, of1⟩ ?_
  have un : Un (frs X.stack) [] H H1 s.heap s1.heap := I1.base
  obtain ⟨⟨oc, vs, t, hoc, hdc, hvc⟩, _, _⟩ := I1.hok c' _ hc
  have hbind : ∃ bn, BindsTo s1 (PySem.W.kdv_fn "<lambda>" (X.env.qual ++ "<lambda>") l.ps (.expr l.body) l.sc (cloFrom X.env.cells l.sc.names []) dV doc pm (.ref c') ctv) ⟨[], []⟩ bn ∧ ∀ y ∈ bn, l.sc.names.lookup y.1 = some .local := by
    unfold DfB at Lb
    have par := Lo.par
    cases e : l.df with
    | no =>
      rw [e] at Lb hdv
      obtain rfl : dV = .none := hdv
      exact ⟨[], BindsTo.of_eq (Lb _ _ _ _ _ _), fun y hy => absurd hy (by simp)⟩
    | one b z =>
      rw [e] at Lb hdv par
      obtain ⟨T, rfl, hT⟩ := hdv
      obtain ⟨kk, k1, k2⟩ := Lb (X.env.qual ++ "<lambda>") (cloFrom X.env.cells l.sc.names []) T doc pm (.ref c') ctv
      obtain ⟨_, its, rv, ⟨⟨tc, td, tdata, tsl⟩, ho, htc, n, htd⟩⟩ := I1.hok T _ hT
      simp only at htc htd
      subst htc htd
      cases rv with
      | cons ra rest =>
        rename_i u0 us0
        cases rest
        exact ⟨[(b, u0)], BindsTo.of_defaults rfl ho rfl k1 (k2 u0), fun y hy => by rw [List.mem_singleton.mp hy]; exact par⟩
  obtain ⟨bn, hbn, hbl⟩ := hbind
  have rc : codeAny (model X.prog X.w) (X.A.deeper (envOfC qg sg s.heap.objs.size g cdg)) (.call (.ref f) ⟨[], []⟩) (CR (L2.CX X.prog X.w) (envOfC qg sg s.heap.objs.size g cdg :: X.stack) X.prog X.w H1 s1 Q E) s1 := by
    refine PySem.W.kla_callFunE hr.depth of1 rfl Lo.co Lo.gen rfl ⟨c', oc, vs, t, rfl, hoc, hdc, hvc⟩ (hbn _ _ _ _ ?_)
    refine wpAny_newFunctionEnv Lo.cell hbl (fun h₁ hns hsb => ⟨I1.nolimit.fresh _ hsb, ?_⟩) Lo.kind
    show codeAny _ _ (.expr l.body (lEnv X l s1.heap.objs.size f c')) _ _
    have kp : ∀ b o, s1.heap.get? b = some o → h₁.get? b = some o := fun b o e => hsb.extBut b o (Nat.ne_of_lt (Heap.lt_size e)) (Heap.get?_push_of_some _ e)
    have J := lam_in (A := X.A.deeper (envOfC qg sg s.heap.objs.size g cdg)) (outer := envOfC qg sg s.heap.objs.size g cdg :: X.stack) (E := E) (f := f) (c' := c') (tk := s1.toks + bn.length) I Lo I1.env0 hr.hd un hns kp
    refine PySem.W.kla_codeExpr (wpAny_mono ((hbody _ _ s1 H1 f c' (hr.deeper _)).run [] _ _ H1 Q J ht) ?_ fun e s' hq => hq)
    rintro v s' ⟨w', H', J', rv, q⟩
    exact ⟨w', H', J'.os, J'.bare, J'.base, J'.hok, rv, q⟩
  refine wpAny_call (codeAny_mono rc fun r s' hq => ?_)
  cases r with
  | error e => exact tk e s' (XE.of_call I1 (fun cls d H' h => hW cls d H' h) hq)
  | ok fl =>
    cases fl with
    | ret u => exact I1.after hq
    | next => exact False.elim hq
    | brk => exact False.elim hq
    | cont => exact False.elim hq
end
end Rw
set_option maxHeartbeats 2000000
namespace Rw
open PySem PySem.Spec PyProof.Rows L2
/-! ### the refusals' classes, by their names -/
def exN : List Str := ["BadStretches", "NoHouse", "BadCount", "BadDeed", "NoDeed", "BadText", "NotYet", "TooOld", "BadEvent"]
def exWs : List Str := ["stretches", "house", "count", "deed", "none", "text", "not yet", "old", "event"]
def exW (i : Nat) : Str := exWs.getD i ""
def exAddr (K : PySem.W.Frag) (x : Str) : Option Addr := match PySem.W.nsIn K mainGlobals x with
  | some (some (.ref C)) => some C
  | _ => none
def exD (K : PySem.W.Frag) : Addr := (exAddr K "DoneError").getD 0
def exC (K : PySem.W.Frag) (i : Nat) : Addr := (exAddr K (exN.getD i "")).getD 0
def exOneB (K : PySem.W.Frag) (C : Addr) : Bool := exB K C && (xfB K C && (decide (PySem.W.exmOne K (.ref C) (.ref (exD K)) = some true) && (decide (PySem.W.kitOne K (.ref C) (.type "ValueError") = some true) &&
  (decide (PySem.W.findIn K (.ref C) "at" = some none) && decide (PySem.W.findIn K (.ref C) "place" = some none)))))
def exAllB (K : PySem.W.Frag) : Bool := (exAddr K "DoneError").isSome && ((List.range 9).all fun i => (exAddr K (exN.getD i "")).isSome && (exOneB K (exC K i) &&
  (List.range 9).all fun j => decide (PySem.W.kitOne K (.ref (exC K i)) (.ref (exC K j)) = some (decide (i = j)))))
theorem exAddr_mg {K : PySem.W.Frag} {h : Heap} {mg : Str → Option Value} {x : Str} (X : K.In h) (G : h.Ns mainGlobals mg) (e : (exAddr K x).isSome = true) : mg x = some (.ref ((exAddr K x).getD 0)) := by
  unfold exAddr at e ⊢
  split at e
  · rename_i C q
    exact PySem.W.mg_of X G q
  · cases e
/-- what the head tells of the refusals -/
structure ToldC (K : PySem.W.Frag) (mg : Str → Option Value) : Prop where
  isinst : mg "isinstance" = none
  ve : mg "ValueError" = none
  gD : mg "DoneError" = some (.ref (exD K))
  all : exAllB K = true
  g : ∀ i, i < 9 → mg (exN.getD i "") = some (.ref (exC K i))
theorem toldC_mk {K : PySem.W.Frag} {h : Heap} {mg : Str → Option Value} (X : K.In h) (G : h.Ns mainGlobals mg) (a : exAllB K = true) (i : mg "isinstance" = none) (v : mg "ValueError" = none) : ToldC K mg := by
  have a' := a
  unfold exAllB at a'
  simp only [Bool.and_eq_true, List.all_eq_true, List.mem_range] at a'
  exact ⟨i, v, exAddr_mg X G a'.1, a, fun i hi => exAddr_mg X G (a'.2 i hi).1⟩
structure ExIs (K : PySem.W.Frag) (i : Nat) : Prop where
  b : exB K (exC K i) = true
  xf : XfC K (exC K i)
  m : PySem.W.exmOne K (.ref (exC K i)) (.ref (exD K)) = some true
  v : PySem.W.kitOne K (.ref (exC K i)) (.type "ValueError") = some true
  at_ : PySem.W.findIn K (.ref (exC K i)) "at" = some none
  pl : PySem.W.findIn K (.ref (exC K i)) "place" = some none
  k : ∀ j, j < 9 → PySem.W.kitOne K (.ref (exC K i)) (.ref (exC K j)) = some (decide (i = j))
theorem ToldC.is {K : PySem.W.Frag} {mg : Str → Option Value} (T : ToldC K mg) {i : Nat} (hi : i < 9) : ExIs K i := by
  have a' := T.all
  unfold exAllB exOneB at a'
  simp only [Bool.and_eq_true, List.all_eq_true, List.mem_range, decide_eq_true_eq] at a'
  obtain ⟨_, ⟨h1, h2, h3, h4, h5, h6⟩, h7⟩ := a'.2 i hi
  exact ⟨h1, xfB_ok h2, h3, h4, h5, h6, h7⟩
/-! ### told: what is wished of a refusal -/
def EW (K : PySem.W.Frag) (Q : VK) : XK := fun cls d H => ∃ i, i < 9 ∧ cls = .ref (exC K i) ∧ (∀ dd, d = some dd → ∃ fs, H dd = some (.xd fs)) ∧
  (if i = 0 ∨ i = 3 ∨ i = 8 then ∃ dd fs v, d = some dd ∧ H dd = some (.xd fs) ∧ fs.lookup ("at" : Str) = some v ∧ ∀ H' t, Same H H' → H t = none → H' t = some (.tup [.str (exW i), v]) → Q (.ref t) H'
   else if i = 5 then ∃ dd fs v, d = some dd ∧ H dd = some (.xd fs) ∧ fs.lookup ("place" : Str) = some v ∧ ∀ H' t, Same H H' → H t = none → H' t = some (.tup [.str (exW i), v]) → Q (.ref t) H'
   else ∀ H' t, Same H H' → H t = none → H' t = some (.tup [.str (exW i)]) → Q (.ref t) H')
def kindsD (i : Nat) : List PyData := (List.range 9).map fun j => .bool (decide (i = j))
theorem kinds_count : ∀ i : Nat, i < 9 → (kindsD i).countP (fun z => PyData.eqv z (.bool true)) = 1 := by
  intro i hi
  have h : ∀ i : Fin 9, (kindsD i.1).countP (fun z => PyData.eqv z (.bool true)) = 1 := by decide
  exact h ⟨i, hi⟩
theorem kinds_shaped : ∀ i : Nat, i < 9 → SeqAt.shaped (.list (kindsD i)) = true := by
  intro i hi
  have h : ∀ i : Fin 9, SeqAt.shaped (.list (kindsD i.1)) = true := by decide +kernel
  exact h ⟨i, hi⟩
theorem kinds_get {i m : Nat} (hm : m < 9) : (kindsD i)[m]? = some (.bool (decide (i = m))) := by
  unfold kindsD
  rw [List.getElem?_map, List.getElem?_range hm]
  rfl
theorem kinds_at : ∀ i : Nat, i < 9 → ∀ m, m < i → (kindsD i)[m]? = some (.bool false) := by
  intro i hi m hm
  rw [kinds_get (by omega), decide_eq_false (by omega)]
theorem kinds_hit : ∀ i : Nat, i < 9 → (kindsD i)[i]? = some (.bool true) := by
  intro i hi
  rw [kinds_get hi, decide_eq_true rfl]
theorem exW_at : ∀ i : Nat, i < 9 → (exWs.map V.str)[i]? = some (.str (exW i)) := by
  intro i hi
  have h : ∀ i : Fin 9, (exWs.map V.str)[i.1]? = some (.str (exW i.1)) := fun i => by
    match i with
    | ⟨0, _⟩ | ⟨1, _⟩ | ⟨2, _⟩ | ⟨3, _⟩ | ⟨4, _⟩ | ⟨5, _⟩ | ⟨6, _⟩ | ⟨7, _⟩ | ⟨8, _⟩ => rfl
  exact h ⟨i, hi⟩
theorem exW_in : ∀ i : Nat, i < 9 → inV (.str (exW i)) [.str "stretches", .str "deed", .str "event"] = decide (i = 0 ∨ i = 3 ∨ i = 8) := by
  intro i hi
  have h : ∀ i : Fin 9, inV (.str (exW i.1)) [.str "stretches", .str "deed", .str "event"] = decide (i.1 = 0 ∨ i.1 = 3 ∨ i.1 = 8) := by decide
  exact h ⟨i, hi⟩
theorem exW_text : ∀ i : Nat, i < 9 → decide ((V.str (exW i)) = V.str "text") = decide (i = 5) := by
  intro i hi
  have h : ∀ i : Fin 9, decide ((V.str (exW i.1)) = V.str "text") = decide (i.1 = 5) := by decide
  exact h ⟨i, hi⟩
end Rw
set_option maxHeartbeats 4000000
namespace Rw
open PySem PySem.Spec PyProof.Rows L2
theorem bt_ve : bootBuiltins "ValueError" = some (.type "ValueError") := by decide +kernel
theorem dp_bools {K : PySem.W.Frag} {H : Hp} : ∀ bs : List Bool, DpAll K H (bs.map V.bl) (bs.map PyData.bool)
  | [] => .nil
  | b :: bs => .cons (.bl b) (dp_bools bs)
theorem suite_ok {P : Program} {w : World} {K : PySem.W.Frag} {mg : Str → Option Value} {base : Heap} {g : Addr} {cdg : Value} {A : Around} {outer : List Env} {s : Shared} {H0 : Hp} {a : Addr} {oe : Obj} {cls : Value} {d : Option Addr} {pn : List (Addr × Obj)} {k : Nat}
    (T : ToldC K mg) (hr : Room k (A.deeper (envOfC "_law_told" (defScope s_law_told) s.heap.objs.size g cdg))) (hz : Zc cls d oe) (hf : ∃ vs, oe.data = .fields vs) :
    ∃ st b0 np p1 p2 p3 p4 bt, defBody s_law_told = [.Try [.Return (some (.Call (.Name "_law_work" p1) [] [] p2)) p3] [.ExceptHandler (some (.Name "DoneError" np)) (some "e") (b0 :: st) p4] [] [] bt] ∧
    PSs ((cxOf CX0 P w K mg base ["_law_work", "e", "_law_kinds", "_law_words", "_law_word"] "_law_told" (defScope s_law_told) g cdg A outer s H0 E0).nox.suite a ((a, oe) :: pn)) (b0 :: st)
      (fun D σ H => (∃ x0 y2 y3 y4, σ = [x0, some (.ref a), y2, y3, y4]) ∧ EW K D.rt cls d H) := by
  refine ⟨_, _, _, _, _, _, _, _, rfl, ⟨fun pins s' σ H D I h => ?_⟩⟩
  obtain ⟨⟨x0, y2, y3, y4, rfl⟩, i, hi, rfl, hd, hw⟩ := h
  have X := T.is hi
  have hu : ((cxOf CX0 P w K mg base ["_law_work", "e", "_law_kinds", "_law_words", "_law_word"] "_law_told" (defScope s_law_told) g cdg A outer s H0 E0).nox.suite a ((a, oe) :: pn)).A.units + 65 < cLine := by
    have := hr.un
    show (A.deeper (envOfC "_law_told" (defScope s_law_told) s.heap.objs.size g cdg)).units + 65 < _
    omega
  have nd : (["_law_work", "e", "_law_kinds", "_law_words", "_law_word"] : List Str).Nodup := sc_law_told.nd
  have g0 : mg "BadStretches" = some (.ref (exC K 0)) := T.g 0 (by decide)
  have g1 : mg "NoHouse" = some (.ref (exC K 1)) := T.g 1 (by decide)
  have g2 : mg "BadCount" = some (.ref (exC K 2)) := T.g 2 (by decide)
  have g3 : mg "BadDeed" = some (.ref (exC K 3)) := T.g 3 (by decide)
  have g4 : mg "NoDeed" = some (.ref (exC K 4)) := T.g 4 (by decide)
  have g5 : mg "BadText" = some (.ref (exC K 5)) := T.g 5 (by decide)
  have g6 : mg "NotYet" = some (.ref (exC K 6)) := T.g 6 (by decide)
  have g7 : mg "TooOld" = some (.ref (exC K 7)) := T.g 7 (by decide)
  have g8 : mg "BadEvent" = some (.ref (exC K 8)) := T.g 8 (by decide)
  have hdm : ∀ {H' : Hp}, Same H H' → ∀ dd, d = some dd → ∃ fs, H' dd = some (.xd fs) := fun sm dd e => (hd dd e).imp fun fs z => sm _ _ z
  refine (pss_cons (ps_set (i := 2) nd rfl (.inl rfl) (pe_lst (pa_cons (pe_callB (call_isX hz hf) (by rfl) T.isinst (by decide +kernel) (pa_cons (pv 1) (pa_cons (pe_glob (v := .ref (exC K 0)) (by rfl) g0 rfl) pa_nil)))
      (pa_cons (pe_callB (call_isX hz hf) (by rfl) T.isinst (by decide +kernel) (pa_cons (pv 1) (pa_cons (pe_glob (v := .ref (exC K 1)) (by rfl) g1 rfl) pa_nil)))
      (pa_cons (pe_callB (call_isX hz hf) (by rfl) T.isinst (by decide +kernel) (pa_cons (pv 1) (pa_cons (pe_glob (v := .ref (exC K 2)) (by rfl) g2 rfl) pa_nil)))
      (pa_cons (pe_callB (call_isX hz hf) (by rfl) T.isinst (by decide +kernel) (pa_cons (pv 1) (pa_cons (pe_glob (v := .ref (exC K 3)) (by rfl) g3 rfl) pa_nil))) pa_nil))))))
    (pss_cons (ps_set (i := 2) nd rfl (.inl rfl) (pe_op op_cat (pv 2) (pe_lst (pa_cons (pe_callB (call_isX hz hf) (by rfl) T.isinst (by decide +kernel) (pa_cons (pv 1) (pa_cons (pe_glob (v := .ref (exC K 4)) (by rfl) g4 rfl) pa_nil)))
      (pa_cons (pe_callB (call_isX hz hf) (by rfl) T.isinst (by decide +kernel) (pa_cons (pv 1) (pa_cons (pe_glob (v := .ref (exC K 5)) (by rfl) g5 rfl) pa_nil)))
      (pa_cons (pe_callB (call_isX hz hf) (by rfl) T.isinst (by decide +kernel) (pa_cons (pv 1) (pa_cons (pe_glob (v := .ref (exC K 6)) (by rfl) g6 rfl) pa_nil)))
      (pa_cons (pe_callB (call_isX hz hf) (by rfl) T.isinst (by decide +kernel) (pa_cons (pv 1) (pa_cons (pe_glob (v := .ref (exC K 7)) (by rfl) g7 rfl) pa_nil))) pa_nil)))))))
    (pss_cons (ps_expr (pe_bm PySem.F.plainAttrs_list PySem.F.slot_list_append PySem.F.type_list_append mt_append (pv 2) (pa_cons (pe_callB (call_isX hz hf) (by rfl) T.isinst (by decide +kernel) (pa_cons (pv 1) (pa_cons (pe_glob (v := .ref (exC K 8)) (by rfl) g8 rfl) pa_nil))) pa_nil)))
    (pss_cons (ps_set (i := 3) nd rfl (.inl rfl) (pe_lst (pa_cons pe_str (pa_cons pe_str (pa_cons pe_str (pa_cons pe_str (pa_cons pe_str (pa_cons pe_str (pa_cons pe_str (pa_cons pe_str (pa_cons pe_str pa_nil)))))))))))
    (pss_cons (ps_if (PW.pt (pw_or (pt_cmpR op_ne (pe_bm PySem.F.plainAttrs_list PySem.F.slot_list_count PySem.F.type_list_count (mt_countD hu) (pv 2) (pa_cons pe_bl pa_nil)) pe_int (nomark _))
        (pw_or1 (pt_not (pt_val (pe_callB (call_isX hz hf) (by rfl) T.isinst (by decide +kernel) (pa_cons (pv 1) (pa_cons (pe_bty (by rfl) T.ve bt_ve) pa_nil)))))))) (pss_one (ps_ret (pe_tup (pa_cons pe_str pa_nil)))) pss_nil)
    (pss_cons (ps_set (i := 4) nd rfl (.inl rfl) (pe_ix ix_list (pv 3) (pe_bm PySem.F.plainAttrs_list PySem.F.slot_list_index PySem.F.type_list_index (mt_indexD hu) (pv 2) (pa_cons pe_bl pa_nil)) (fun _ _ => rfl)))
    (pss_cons (ps_if (pt_cmpR op_in_seq (pv 4) (pe_tup (pa_cons pe_str (pa_cons pe_str (pa_cons pe_str pa_nil)))) (by rfl)) (pss_one (ps_ret (pe_tup (pa_cons (pv 4) (pa_cons (pe_xf X.xf X.at_ hz hf (pv 1)) pa_nil))))) pss_nil)
    (pss_one (ps_ret (pe_ifExp (pt_cmpR op_eq (pv 4) pe_str (nomark _)) (pe_tup (pa_cons (pv 4) (pa_cons (pe_xf X.xf X.pl hz hf (pv 1)) pa_nil))) (pe_tup (pa_cons (pv 4) pa_nil)))))))))))).run pins s' _ H D I ?_
  refine ⟨_, rfl, exC K i, .ref (exC K 0), .ref (exC K 0), _, rfl, X.b, rfl, fun u r => r, X.k 0 (by decide), hdm (Same.refl H), _, rfl, exC K i, .ref (exC K 1), .ref (exC K 1), _, rfl, X.b, rfl, fun u r => r, X.k 1 (by decide), hdm (Same.refl H), _, rfl, exC K i, .ref (exC K 2), .ref (exC K 2), _, rfl, X.b, rfl, fun u r => r, X.k 2 (by decide), hdm (Same.refl H), _, rfl, exC K i, .ref (exC K 3), .ref (exC K 3), _, rfl, X.b, rfl, fun u r => r, X.k 3 (by decide), hdm (Same.refl H), by show 4 ≤ sizeLine; decide, fun l nl => ?_⟩
  have s1 : Same H (upd H l (.lst [.bl (decide (i = 0)), .bl (decide (i = 1)), .bl (decide (i = 2)), .bl (decide (i = 3))])) := same_upd nl
  have h1 : upd H l (.lst [.bl (decide (i = 0)), .bl (decide (i = 1)), .bl (decide (i = 2)), .bl (decide (i = 3))]) l = some (.lst [.bl (decide (i = 0)), .bl (decide (i = 1)), .bl (decide (i = 2)), .bl (decide (i = 3))]) := upd_same
  revert s1 h1
  generalize upd H l (.lst [V.bl (decide (i = 0)), .bl (decide (i = 1)), .bl (decide (i = 2)), .bl (decide (i = 3))]) = H1
  intro s1 h1
  refine ⟨_, rfl, _, rfl, exC K i, .ref (exC K 4), .ref (exC K 4), _, rfl, X.b, rfl, fun u r => r, X.k 4 (by decide), hdm s1, _, rfl, exC K i, .ref (exC K 5), .ref (exC K 5), _, rfl, X.b, rfl, fun u r => r, X.k 5 (by decide), hdm s1, _, rfl, exC K i, .ref (exC K 6), .ref (exC K 6), _, rfl, X.b, rfl, fun u r => r, X.k 6 (by decide), hdm s1, _, rfl, exC K i, .ref (exC K 7), .ref (exC K 7), _, rfl, X.b, rfl, fun u r => r, X.k 7 (by decide), hdm s1, by show 4 ≤ sizeLine; decide, fun l2 nl2 => ?_⟩
  refine ⟨l, l2, _, _, rfl, rfl, same_upd nl2 _ _ h1, upd_same, by show 4 + 4 ≤ sizeLine; decide, fun l3 nl3 => ?_⟩
  have s3 : Same H (upd (upd H1 l2 (.lst [.bl (decide (i = 4)), .bl (decide (i = 5)), .bl (decide (i = 6)), .bl (decide (i = 7))])) l3 (.lst ([.bl (decide (i = 0)), .bl (decide (i = 1)), .bl (decide (i = 2)), .bl (decide (i = 3))] ++ [.bl (decide (i = 4)), .bl (decide (i = 5)), .bl (decide (i = 6)), .bl (decide (i = 7))]))) := (s1.trans (same_upd nl2)).trans (same_upd nl3)
  have n3 : H l3 = none := (s1.trans (same_upd nl2)).free nl3
  have h3 : upd (upd H1 l2 (.lst [.bl (decide (i = 4)), .bl (decide (i = 5)), .bl (decide (i = 6)), .bl (decide (i = 7))])) l3 (.lst ([.bl (decide (i = 0)), .bl (decide (i = 1)), .bl (decide (i = 2)), .bl (decide (i = 3))] ++ [.bl (decide (i = 4)), .bl (decide (i = 5)), .bl (decide (i = 6)), .bl (decide (i = 7))])) l3 = some (.lst ([.bl (decide (i = 0)), .bl (decide (i = 1)), .bl (decide (i = 2)), .bl (decide (i = 3))] ++ [.bl (decide (i = 4)), .bl (decide (i = 5)), .bl (decide (i = 6)), .bl (decide (i = 7))])) := upd_same
  revert s3 h3
  generalize upd (upd H1 l2 (.lst [V.bl (decide (i = 4)), .bl (decide (i = 5)), .bl (decide (i = 6)), .bl (decide (i = 7))])) l3 (.lst ([V.bl (decide (i = 0)), .bl (decide (i = 1)), .bl (decide (i = 2)), .bl (decide (i = 3))] ++ [V.bl (decide (i = 4)), .bl (decide (i = 5)), .bl (decide (i = 6)), .bl (decide (i = 7))])) = H3
  intro s3 h3
  refine ⟨_, rfl, .inl ⟨rfl, _, SqL.of h3⟩, _, rfl, exC K i, .ref (exC K 8), .ref (exC K 8), _, rfl, X.b, rfl, fun u r => r, X.k 8 (by decide), hdm s3, l3, _, _, rfl, rfl, h3, by show 8 < sizeLine; decide, ?_⟩
  have s4 : Same H (upd H3 l3 (.lst ([.bl (decide (i = 0)), .bl (decide (i = 1)), .bl (decide (i = 2)), .bl (decide (i = 3))] ++ [.bl (decide (i = 4)), .bl (decide (i = 5)), .bl (decide (i = 6)), .bl (decide (i = 7))] ++ [.bl (decide (i = 8))]))) := fun b o e => by
    rw [upd_ne (ne_of_none e n3)]
    exact s3 _ _ e
  have h4 : upd H3 l3 (.lst ([.bl (decide (i = 0)), .bl (decide (i = 1)), .bl (decide (i = 2)), .bl (decide (i = 3))] ++ [.bl (decide (i = 4)), .bl (decide (i = 5)), .bl (decide (i = 6)), .bl (decide (i = 7))] ++ [.bl (decide (i = 8))])) l3 = some (.lst (((List.range 9).map fun j => decide (i = j)).map V.bl)) := upd_same
  revert s4 h4
  generalize upd H3 l3 (.lst ([V.bl (decide (i = 0)), .bl (decide (i = 1)), .bl (decide (i = 2)), .bl (decide (i = 3))] ++ [V.bl (decide (i = 4)), .bl (decide (i = 5)), .bl (decide (i = 6)), .bl (decide (i = 7))] ++ [V.bl (decide (i = 8))])) = H4
  intro s4 h4
  refine ⟨by show 9 ≤ sizeLine; decide, fun lw nlw => ?_⟩
  have s5 : Same H (upd H4 lw (.lst [V.str "stretches", .str "house", .str "count", .str "deed", .str "none", .str "text", .str "not yet", .str "old", .str "event"])) := s4.trans (same_upd nlw)
  have h5 : upd H4 lw (.lst [V.str "stretches", .str "house", .str "count", .str "deed", .str "none", .str "text", .str "not yet", .str "old", .str "event"]) l3 = _ := same_upd nlw _ _ h4
  have hw5 : upd H4 lw (.lst [V.str "stretches", .str "house", .str "count", .str "deed", .str "none", .str "text", .str "not yet", .str "old", .str "event"]) lw = some (.lst (exWs.map V.str)) := upd_same
  revert s5 h5 hw5
  generalize upd H4 lw (.lst [V.str "stretches", .str "house", .str "count", .str "deed", .str "none", .str "text", .str "not yet", .str "old", .str "event"]) = H5
  intro s5 h5 hw5
  clear s1 h1 s3 h3 s4 h4 nl nl2 nl3 nlw n3
  have hL : Dp K H5 (V.ref l3) (.list (kindsD i)) := .lst (SqL.of h5) (by
    have := dp_bools (K := K) (H := H5) ((List.range 9).map fun j => decide (i = j))
    rw [List.map_map (l := List.range 9) (g := PyData.bool)] at this
    exact this)
  refine ⟨_, rfl, .inl ⟨rfl, _, SqL.of h5⟩, l3, .bl true, .bool true, kindsD i, rfl, rfl, hL, .bl true, kinds_shaped i hi, by decide +kernel, ?_⟩
  rw [kinds_count i hi]
  refine ⟨rfl, false, rfl, iteF ?_⟩
  refine ⟨_, rfl, exC K i, .ty "ValueError", .type "ValueError", _, rfl, X.b, rfl, fun u r => r, X.v, hdm s5, true, rfl, iteF ?_⟩
  refine ⟨_, rfl, _, rfl, .inl ⟨rfl, _, SqL.of h5⟩, l3, .bl true, .bool true, kindsD i, i, .bool true, rfl, rfl, hL, .bl true, kinds_shaped i hi, by decide +kernel, kinds_hit i hi, rfl, fun m z hm e => ?_, ?_⟩
  · rw [kinds_at i hi m hm] at e
    cases e
    rfl
  refine ⟨lw, _, _, _, rfl, rfl, SqL.of hw5, atI_nat (exW_at i hi), ?_⟩
  refine ⟨_, rfl, by show 3 ≤ sizeLine; decide, fun p np => ⟨p, _, rfl, .inr (SqT.of upd_same), rfl, rfl, ?_⟩⟩
  have s6 : Same H (upd H5 p (.tup [.str "stretches", .str "deed", .str "event"])) := s5.trans (same_upd np)
  revert s6
  generalize upd H5 p (.tup [V.str "stretches", .str "deed", .str "event"]) = H6
  intro s6
  rw [if_neg Bool.false_ne_true, exW_in i hi]
  by_cases c1 : i = 0 ∨ i = 3 ∨ i = 8
  · rw [if_pos c1] at hw
    obtain ⟨dd, fs, v, hdd, hfs, hl, q⟩ := hw
    refine ⟨true, by rw [decide_eq_true c1], iteT ?_⟩
    refine ⟨_, rfl, _, rfl, rfl, rfl, dd, fs, v, hdd, s6 _ _ hfs, hl, by show 2 ≤ sizeLine; decide, fun t nt => ?_⟩
    exact q _ t (s6.trans (same_upd nt)) (s6.free nt) upd_same
  · rw [if_neg c1] at hw
    refine ⟨false, by rw [decide_eq_false c1], iteF ?_⟩
    refine ⟨_, rfl, rfl, _, rfl, ?_⟩
    rw [exW_text i hi]
    by_cases c2 : i = 5
    · rw [if_pos c2] at hw
      obtain ⟨dd, fs, v, hdd, hfs, hl, q⟩ := hw
      rw [decide_eq_true c2]
      refine iteT ⟨_, rfl, _, rfl, rfl, rfl, dd, fs, v, hdd, s6 _ _ hfs, hl, by show 2 ≤ sizeLine; decide, fun t nt => ?_⟩
      exact q _ t (s6.trans (same_upd nt)) (s6.free nt) upd_same
    · rw [if_neg c2] at hw
      rw [decide_eq_false c2]
      refine iteF ⟨_, rfl, by show 1 ≤ sizeLine; decide, fun t nt => ?_⟩
      exact hw _ t (s6.trans (same_upd nt)) (s6.free nt) upd_same
end Rw
set_option maxHeartbeats 2000000
namespace Rw
open PySem PySem.Spec PyProof.Rows L2
/-- _law_told(e): e gives one of the lambdas LS, made in X -/
def tTold (X : Cx) (LS : List Lam) (tb : XK → Lam → TE) (te : TE) : TE := fun σ H Q => te σ H fun v H1 => ∃ l ∈ LS, ∃ f, v = .ref f ∧ LamAt X l H1 f ∧ tb (EW X.K Q) l σ H1 Q
theorem pe_told {X : Cx} {e : Expr} {te : TE} {LS : List Lam} {tb : XK → Lam → TE} {k : Nat} {g : Addr} {fd : FuncData} {p pos : Pos} (T : ToldC X.K X.mg) (F : Fun X.K "_law_told" "_law_told" s_law_told g fd) (hg : Gl X "_law_told") (hm : X.mg "_law_told" = some (.ref g))
    (hr : Room (k + 2) X.A) (he : PE X e te)
    (L : ∀ l ∈ LS, LamOk X.N X.env.scope l ∧ DfB l ∧ ∀ (E : XK) (A : Around) (outer : List Env) (s : Shared) (H : Hp) (f c' : Addr), Room k (A.deeper (lEnv X l s.heap.objs.size f c')) → PE (lCx X A outer s H E l f c') l.body (tb E l))
    (h1 : starEach [e] X.env = (false, eval e X.env) :: starEach [] X.env := by rfl) (h2 : (backTo pos (starEach [] X.env)).any (·.1) = false := by rfl) :
    PE X (.Call (.Name "_law_told" p) [e] [] pos) (tTold X LS tb te) := by
  constructor
  intro pins s σ H Q I h
  obtain ⟨oc, od, kV, doc, pm, an, cdv, ct, osl, rfl, lk, hcd⟩ := id F.ex
  have hb : Binds X.K (PySem.W.fnOf "_law_told" "_law_told" (defArgs s_law_told) (defBody s_law_told) (defScope s_law_told) .none kV doc pm an cdv ct) ["_law_work"] [] := F.binds fun _ _ _ _ _ _ us hl => match us, hl with | [_], _ => rfl
  refine wpAny_Call_Name_kw (ld_glob I hg hm ?_)
  refine PySem.W.callWith_K (h₀ := X.base) I.ok.mod.kin F.kp (thn ((pa_cons he pa_nil h1).run pos pins s σ H (fun vs H1 => ∃ v, vs = [v] ∧ ∃ l ∈ LS, ∃ f, v = .ref f ∧ LamAt X l H1 f ∧ tb (EW X.K Q) l σ H1 Q) I ?_) ?_) h1 h2
  · show te σ H fun v H1 => ∃ v', [v] = [v'] ∧ _
    have e0 : (fun (v : V) (H1 : Hp) => ∃ v', [v] = [v'] ∧ ∃ l ∈ LS, ∃ f, v' = .ref f ∧ LamAt X l H1 f ∧ tb (EW X.K Q) l σ H1 Q) = fun v H1 => ∃ l ∈ LS, ∃ f, v = .ref f ∧ LamAt X l H1 f ∧ tb (EW X.K Q) l σ H1 Q := by
      funext v H1
      exact propext ⟨fun ⟨v', e, z⟩ => by cases e; exact z, fun z => ⟨v, rfl, z⟩⟩
    rw [e0]
    exact h
  rintro us s1 ⟨vs, H1, I1, r, v, rfl, l, hl, f, rfl, hla, q⟩
  refine ⟨I1.kIn, ?_⟩
  have rc : codeAny (model X.prog X.w) X.A (.call (.ref g) ⟨us, []⟩) (CR CX0 X.stack X.prog X.w H1 s1 Q E0) s1 := by
    refine LamX.run_ofS (N := ["_law_work", "e", "_law_kinds", "_law_words", "_law_word"]) (ps := ["_law_work"]) (us := us) (vs := [.ref f]) lk hcd sc_law_told hr I1.env0 ?_ r rfl fun hr' => ?_
    · have := hb s1 us I1.kIn (by rw [List.append_nil, ← r.length]; rfl)
      rwa [List.append_nil] at this
    · refine ⟨_, (pss_one (ps_try_as (X := (cxOf CX0 X.prog X.w X.K X.mg X.base ["_law_work", "e", "_law_kinds", "_law_words", "_law_word"] "_law_told" (defScope s_law_told) g cdv X.A X.stack s1 H1 E0).nox) (i := 1) (x := "DoneError") (n := "e") (c := .ref (exD X.K))
        (tb := fun W D σ' H' => (∀ cls d H'', EW X.K Q cls d H'' → W cls d σ' H'') ∧ ∃ l ∈ LS, ∃ f, σ'[0]? = some (some (.ref f)) ∧ LamAt X l H' f ∧ tb (EW X.K Q) l σ H' D.rt)
        (ts := fun a cls d D σ' H' => (∃ x0 y2 y3 y4, σ' = [x0, some (.ref a), y2, y3, y4]) ∧ EW X.K D.rt cls d H')
        rfl rfl sc_law_told.nd rfl rfl ⟨rfl, by decide, .inl T.gD⟩ takes0 (fun W pn xe tk _ => ?body) (fun a oe cls d pn hz hf => ?suite))).nox, ?read⟩
      case body =>
        exact pss_one (ps_ret (pe_actV (CXg := CX0) (Eg := E0) (Ng := ["_law_work", "e", "_law_kinds", "_law_words", "_law_word"]) (qg := "_law_told") (sg := defScope s_law_told) (g := g) (cdg := cdv) (k := k) (i := 0) (a := "_law_work") (pn := pn) (xe := xe) (W := W) (E := EW X.K Q) (LS := LS) (tb := tb (EW X.K Q)) I1 tk hr'
          (fun l hl => ⟨(L l hl).1, (L l hl).2.1, (L l hl).2.2 _⟩) rfl (.inl rfl)))
      case suite =>
        obtain ⟨st', b0', np', p1', p2', p3', p4', bt', eb', hs⟩ := suite_ok (P := X.prog) (w := X.w) (base := X.base) (g := g) (cdg := cdv) (A := X.A) (outer := X.stack) (s := s1) (H0 := H1) (pn := pn) T hr' hz hf
        cases eb'
        exact hs
      case read =>
        refine ⟨fun cls d H'' ew => ?_, l, hl, f, rfl, hla, q⟩
        obtain ⟨i, hi, ec, z⟩ := id ew
        refine ⟨true, by rw [ec]; exact (T.is hi).m, fun _ a na => ⟨⟨_, _, _, _, rfl⟩, ?_⟩, fun z => by cases z⟩
        exact ew
  refine wpAny_call (codeAny_mono rc fun r s2 hq => ?_)
  cases r with
  | error e => exact (show False from hq).elim
  | ok fl =>
    cases fl with
    | ret u => exact I1.after hq
    | next => exact False.elim hq
    | brk => exact False.elim hq
    | cont => exact False.elim hq
end Rw
namespace Rw
open PySem PySem.Spec PyProof.Rows L2
/-! ### rows that may be none: triples of ints -/
instance (r : Row) : Decidable (RowOk r) := by unfold RowOk; infer_instance
def badAt (rs : List Row) : Option Nat := rs.findIdx? fun r => !decide (RowOk r)
theorem badAt_none {rs : List Row} : badAt rs = none ↔ ∀ r ∈ rs, RowOk r := by
  unfold badAt
  rw [List.findIdx?_eq_none_iff]
  constructor
  · intro h r hr
    have := h r hr
    simpa using this
  · intro h r hr
    simpa using h r hr
theorem badAt_some {rs : List Row} {i : Nat} {r : Row} (h1 : ∀ j s, j < i → rs[j]? = some s → RowOk s) (h2 : rs[i]? = some r) (h3 : ¬ RowOk r) : badAt rs = some i := by
  unfold badAt
  rw [List.findIdx?_eq_some_iff_getElem]
  obtain ⟨hi, e⟩ := List.getElem?_eq_some_iff.mp h2
  refine ⟨hi, by rw [e]; simpa using h3, fun j hj => ?_⟩
  have := h1 j _ hj (List.getElem?_eq_getElem (by omega))
  simpa using this
theorem badAt_lt {rs : List Row} {i : Nat} (h : badAt rs = some i) : i < rs.length := by
  unfold badAt at h
  rw [List.findIdx?_eq_some_iff_getElem] at h
  exact h.1
def wrongV (rs : List Row) : V := match badAt rs with
  | none => .non
  | some i => .int i
def spIsRowX : Sp := fun vs H Q _ => ∃ (v : V) (r : Row), vs = [v] ∧ kRow.is H v r ∧ Q (.bl (decide (RowOk r))) H
def spFirstWrongX : Sp := fun vs H Q _ => ∃ (v : V) (rs : List Row), vs = [v] ∧ (kL kRow).is H v rs ∧ rs.length ≤ 200 ∧ ∀ H', Same H H' → Q (wrongV rs) H'
/-- __init__ of the refusals that keep one number under f -/
def spExInit (K : PySem.W.Frag) (f : Str) : Sp := fun vs H Q _ => ∃ (a C : Addr) (z : Int), vs = [.ref a, .int z] ∧ z.natAbs.log2 < 1920 ∧ H a = some (exo a C none) ∧ OexC K C ∧ PySem.W.findIn K (.ref C) f = some none ∧
  ∀ dx, H dx = none → dx ≠ a → Q .non (upd (upd H dx (exd dx [(f, .int z)])) a (exo a C (some dx)))
/-- what is refused of rows -/
def BadAt (K : PySem.W.Frag) (H : Hp) (i : Nat) (E : XK) : Prop := ∀ (H' : Hp) (d : Addr), Same H H' → H d = none → H' d = some (.xd [("at", .int i)]) → E (.ref (exC K 0)) (some d) H'
def spCheckRowsX (K : PySem.W.Frag) : Sp := fun vs H Q E => ∃ (v : V) (rs : List Row), vs = [v] ∧ (kL kRow).is H v rs ∧ rs.length ≤ 200 ∧ (badAt rs = none → ∀ H', Same H H' → Q .non H') ∧ ∀ i, badAt rs = some i → BadAt K H i E
section
variable {P : Program} {w : World} {K : PySem.W.Frag} {mg : Str → Option Value} {base : Heap}
theorem ok_is_rowX {f : Addr} {fd : FuncData} (F : Fun K "is_row" "is_row" s_is_row f fd) (T : TxA mg) (CN : Cal P w K mg base 1 "is_number" ["value", "low", "high"] spIsNumber) (CH : Cal P w K mg base 2 "is_house" ["value"] spIsHouse) : FnOk P w K mg base CX0 3 f fd ["row"] spIsRowX := by
  obtain ⟨f1, fd1, G1, g1, kp1, b1⟩ := CN
  obtain ⟨f2, fd2, G2, g2, kp2, b2⟩ := CH
  obtain ⟨tl, hl⟩ := T.lim
  refine F.ok sc_is_row (fun vs H Q E h => ?_) (fun cdv A outer s H vs Q E hr h => ?_)
  · obtain ⟨v, r, rfl, _⟩ := h
    rfl
  · obtain ⟨v, r, rfl, ⟨t, rfl, ht⟩, q⟩ := h
    have hr1 : Room 1 _ := hr.mono (by decide)
    refine ⟨_, pss_cons (ps_if (PW.pt (pw_or (pt_not (pt_val (pe_callB call_isi (by rfl) T.isinst (by decide +kernel) (pa_cons (pv 0) (pa_cons (pe_bty (by rfl) T.tuple bt_tuple) pa_nil)))))
        (pw_or1 (pt_cmpR op_ne (pe_callB call_len (by rfl) T.len PySem.boot_len (pa_cons (pv 0) pa_nil)) pe_int (nomark _))))) (pss_one (ps_ret pe_bl)) pss_nil)
      (pss_cons (ps_asg (pv 0) (pg_tup (by rfl) (pgs_cons (pg_name (i := 1) sc_is_row.nd rfl (.inl rfl)) (pgs_cons (pg_name (i := 2) sc_is_row.nd rfl (.inl rfl)) (pgs_cons (pg_name (i := 3) sc_is_row.nd rfl (.inl rfl)) pgs_nil)))))
      (pss_one (ps_ret (pe_and (pe_call G2 hr (by rfl) g2 kp2 b2 .nil pass0 (pa_cons (pv 1) pa_nil))
        (pe_and (pe_call G1 hr1 (by rfl) g1 kp1 b1 .nil pass0 (pa_cons (pv 2) (pa_cons pe_int (pa_cons (pe_glob (v := .int LIM) (by rfl) hl ⟨_, rfl⟩) pa_nil))))
          (pe_one (pe_call G1 hr1 (by rfl) g1 kp1 b1 .nil pass0 (pa_cons (pv 3) (pa_cons (pv 2) (pa_cons (pe_glob (v := .int LIM) (by rfl) hl ⟨_, rfl⟩) pa_nil)))))))))), ?_⟩
    refine ⟨_, rfl, _, .ty "tuple", _, _, _, rfl, .ty _, tyx_tup ht, kit_tt, true, rfl, iteF ?_⟩
    refine ⟨_, rfl, _, 3, rfl, .inr ⟨_, SqT.of ht, rfl⟩, rfl, false, by decide, iteF ?_⟩
    refine ⟨_, rfl, _, _, rfl, SqT.of ht, rfl, _, _, rfl, _, _, rfl, _, _, rfl, rfl, ?_⟩
    refine ⟨_, rfl, r.1, rfl, _, rfl, ite2 (fun c1 => ?_) (fun c1 => ?_)⟩
    · have c1 := of_decide_eq_true c1
      refine ⟨_, rfl, r.2.1, 1, LIM, rfl, _, rfl, ite2 (fun c2 => ?_) (fun c2 => ?_)⟩
      · have c2 := of_decide_eq_true c2
        refine ⟨_, rfl, _, rfl, r.2.2, r.2.1, LIM, rfl, ?_⟩
        have e : decide (r.2.1 ≤ r.2.2 ∧ r.2.2 ≤ LIM) = decide (RowOk r) := decide_eq_decide.mpr ⟨fun z => ⟨c1.1, c1.2, c2.1, z.1, z.2⟩, fun z => ⟨z.2.2.2.1, z.2.2.2.2⟩⟩
        rw [e]
        exact q
      · have e : decide (RowOk r) = false := decide_eq_false fun z => c2 (decide_eq_true ⟨z.2.2.1, Int.le_trans z.2.2.2.1 z.2.2.2.2⟩)
        rw [e] at q
        exact q
    · have e : decide (RowOk r) = false := decide_eq_false fun z => c1 (decide_eq_true ⟨z.1, z.2.1⟩)
      rw [e] at q
      exact q
theorem ok_first_wrongX {f : Addr} {fd : FuncData} (F : Fun K "first_wrong" "first_wrong" s_first_wrong f fd) (T : TxA mg) (CR : Cal P w K mg base 3 "is_row" ["row"] spIsRowX) : FnOk P w K mg base CX0 4 f fd ["rows"] spFirstWrongX := by
  obtain ⟨f1, fd1, G1, g1, kp1, b1⟩ := CR
  obtain ⟨tm, hm⟩ := T.most
  refine F.ok sc_first_wrong (fun vs H Q E h => ?_) (fun cdv A outer s H vs Q E hr h => ?_)
  · obtain ⟨v, rs, rfl, _⟩ := h
    rfl
  · obtain ⟨v, rs, rfl, ⟨a, xs, rfl, ha, hp⟩, hl, q⟩ := h
    have el : xs.length = rs.length := pr_len hp
    have ec : cutV xs none (some 200) = xs := by
      unfold cutV
      rw [show HT.sIx xs.length 0 none = 0 from rfl, List.drop_zero, List.take_of_length_le]
      show xs.length ≤ (if (200 : Int) < 0 then ((200 : Int) + (xs.length : Int)).toNat else min (200 : Int).toNat xs.length) - 0
      rw [if_neg (by decide)]
      have : (200 : Int).toNat = 200 := rfl
      omega
    refine ⟨_, pss_cons (ps_for PassesOwn.never rfl (pi_enum (by rfl) T.enum (pa_cons (pe_slice sl_list (pv 0) po_none (po_some (pe_glob (v := .int 200) (by rfl) hm ⟨_, rfl⟩))) pa_nil))
          (pg_tup rfl (pgs_cons (pg_name (i := 1) sc_first_wrong.nd rfl (.inl rfl)) (pgs_cons (pg_name (i := 2) sc_first_wrong.nd rfl (.inl rfl)) pgs_nil)))
        (pss_one (ps_if (pt_not (pt_val (pe_call G1 hr (by rfl) g1 kp1 b1 .nil pass0 (pa_cons (pv 2) pa_nil)))) (pss_one (ps_ret (pv 1))) pss_nil)))
      (pss_one (ps_ret (pe_ifExp (pt_cmpR op_gt (pe_callB call_len (by rfl) T.len PySem.boot_len (pa_cons (pv 0) pa_nil)) (pe_glob (v := .int 200) (by rfl) hm ⟨_, rfl⟩) (nomark _))
        (pe_glob (v := .int 200) (by rfl) hm ⟨_, rfl⟩) pe_non))), ?_⟩
    refine ⟨_, rfl, 200, rfl, a, xs, rfl, SqL.of ha, fun p np => ?_⟩
    rw [ec]
    refine ⟨p, _, rfl, SqL.of upd_same, for_it (walk_enum (K := K) (a := p) (xs := xs)) (fun i σ H' => Same H H' ∧ SqL K H' p xs ∧ (∀ j r, j < i → rs[j]? = some r → RowOk r) ∧ ∃ x y, σ = [some (.ref a), x, y])
      ⟨same_upd np, SqL.of upd_same, fun j r hj _ => by omega, none, none, rfl⟩ (fun _ _ _ _ h => h.2.1) ?_ ?_⟩
    · rintro i x σ H1 H2 hi ⟨s1, l1, ok, x0, y0, rfl⟩ ⟨U, i', row, rfl, nU, rfl, ei, er⟩
      have s2 : Same H (upd H1 U (.tup [i', row])) := s1.trans (same_upd nU)
      obtain ⟨r, hr1, hr2⟩ := pr_get hp er
      refine ⟨U, _, rfl, SqT.of upd_same, rfl, i', [row], rfl, row, [], rfl, rfl, ?_⟩
      refine ⟨_, rfl, _, r, rfl, kRow.mono s2 hr2, _, rfl, ?_⟩
      by_cases c : RowOk r
      · rw [decide_eq_true c]
        refine iteF ⟨s2, (same_upd nU).seq l1, fun j s hj hs => ?_, _, _, rfl⟩
        by_cases e : j = i
        · subst e
          rw [hr1] at hs
          cases hs
          exact c
        · exact ok j s (by omega) hs
      · rw [decide_eq_false c]
        refine iteT ⟨_, rfl, ?_⟩
        have e := badAt_some ok hr1 c
        have qq := q _ s2
        unfold wrongV at qq
        rw [e] at qq
        cases ei
        exact qq
    · rintro σ H1 ⟨s1, l1, ok, x0, y0, rfl⟩
      have la : H1 a = some (.lst xs) := s1 _ _ ha
      refine ⟨_, rfl, _, xs.length, rfl, .inl ⟨_, SqL.of la, rfl⟩, _, _, rfl, rfl, _, rfl, ?_⟩
      rw [decide_eq_false (show ¬ (xs.length : Int) > 200 by omega)]
      have e : badAt rs = none := badAt_none.mpr fun r hr => by
        obtain ⟨j, hj⟩ := List.mem_iff_getElem?.mp hr
        exact ok j r (by have := (List.getElem?_eq_some_iff.mp hj).1; omega) hj
      have qq := q _ s1
      unfold wrongV at qq
      rw [e] at qq
      exact iteF qq
theorem ok_exInit {f : Addr} {fd : FuncData} {D : Addr} {mc : Value} (F : Fun K "__init__" "BadStretches.__init__" s_BadStretches___init__ f fd) (gD : mg "DoneError" = some (.ref D)) (B : BaseI K D mc) : FnOk P w K mg base CX0 1 f fd ["self", "at"] (spExInit K "at") := by
  refine F.ok sc_BadStretches___init__ (fun vs H Q E h => ?_) (fun cdv A outer s H vs Q E hr h => ?_)
  · obtain ⟨a, C, z, rfl, _⟩ := h
    rfl
  · obtain ⟨a, C, z, rfl, hz, ha, T, hno, q⟩ := h
    refine ⟨_, pss_cons (ps_expr (pe_baseI (by rfl) gD B (pa_cons (pv 0) (pa_cons (pe_joined (PJ.cons pe_str (PJ.cons (pe_fmt (pv 1)) PJ.nil))) pa_nil))))
      (pss_one (ps_ost (pv 0) (pv 1))), ?_⟩
    refine ⟨_, rfl, _, rfl, by rw [sizeLine_eq]; decide, _, rfl, .inr ⟨z, rfl, hz, _, rfl, ?_, a, C, _, rfl, by show 1 ≤ 1000; decide, T, ha, ?_⟩⟩
    · have h1 := PyProof.Rows.int_text_len_1921 hz
      rw [Str.length_append, Str.length_append]
      have h2 : (Str.empty : Str).length + (Str.ofString "no stretch at place ").length ≤ 100 := by decide +kernel
      rw [sizeLine_eq]
      omega
    · refine ⟨_, rfl, _, rfl, a, C, rfl, T, hno, .inl ⟨ha, fun dx hx ne => q dx hx ne⟩⟩
/-- the refusal that keeps a number may be made -/
def ExCal (P : Program) (w : World) (K : PySem.W.Frag) (mg : Str → Option Value) (base : Heap) (i : Nat) (f : Str) : Prop := ∃ (fI : Addr) (fd : FuncData), OexC K (exC K i) ∧ PySem.W.findIn K (.ref (exC K i)) "__init__" = some (some (.ref fI)) ∧
  PySem.W.typeIn K (.ref fI) = some (.type "function") ∧ FnOk P w K mg base CX0 1 fI fd ["self", f] (spExInit K f) ∧ Binds K fd ["self", f] [] ∧ PySem.W.findIn K (.ref (exC K i)) f = some none ∧ mg (exN.getD i "") = some (.ref (exC K i))
theorem same_del {H : Hp} {a dx : Addr} {o o2 u x : HO} (na : H a = none) (nd : H dx = none) (ne : dx ≠ a) : Same H (upd (del (upd (upd (upd H a o) dx u) a o2) a) dx x) := fun b y e => by
  rw [upd_ne (ne_of_none e nd), del_ne (ne_of_none e na), upd_ne (ne_of_none e na), upd_ne (ne_of_none e nd), upd_ne (ne_of_none e na)]
  exact e
theorem ok_check_rowsX {f : Addr} {fd : FuncData} (F : Fun K "check_rows" "check_rows" s_check_rows f fd) (XC : ExCal P w K mg base 0 "at") (CR : Cal P w K mg base 4 "first_wrong" ["rows"] spFirstWrongX) : FnOk P w K mg base (L2.CX P w) 5 f fd ["rows"] (spCheckRowsX K) := by
  obtain ⟨f1, fd1, G1, g1, kp1, b1⟩ := CR
  obtain ⟨fI, fdI, T, iC, tI, GI, bI, hno, gB⟩ := XC
  have gB' : mg "BadStretches" = some (.ref (exC K 0)) := gB
  refine F.okX sc_check_rows (fun vs H Q E h => ?_) (fun cdv A outer s H vs Q E hr h => ?_)
  · obtain ⟨v, rs, rfl, _⟩ := h
    rfl
  · obtain ⟨v, rs, rfl, hv, hl, q1, q2⟩ := h
    have hr2 : Room 2 _ := hr.mono (by decide)
    refine ⟨_, pss_cons (ps_set (i := 1) sc_check_rows.nd rfl (.inl rfl) (pe_call G1 hr (by rfl) g1 kp1 b1 .nil pass0 (pa_cons (pv 0) pa_nil)))
      (pss_one (ps_if (pt_cmpR op_notN (pv 1) pe_non (nomark _)) (pss_one (ps_raise rfl (takes_of rfl rfl rfl rfl) (pmk_oex T iC tI GI hr2 bI .nil pass0 (by rfl) gB' (pa_cons (pv 1) pa_nil)))) pss_nil)), ?_⟩
    refine ⟨_, rfl, v, rs, rfl, hv, hl, fun H1 s1 => ?_⟩
    unfold wrongV
    cases e : badAt rs with
    | none => exact ⟨_, rfl, rfl, _, rfl, iteF (q1 e _ s1)⟩
    | some i =>
      refine ⟨_, rfl, rfl, _, rfl, iteT ⟨_, rfl, by show 1 ≤ 1000; decide, fun a na => ⟨a, exC K 0, (i : Int), rfl, ?_, upd_same, T, hno, fun dx nx ne => ⟨rfl, dx, [("at", .int i)], ?_, ?_, ?_, ?_⟩⟩⟩⟩
      · have h1 := badAt_lt e
        have h2 := Nat.log2_le_self i
        show (Int.natAbs (i : Int)).log2 < 1920
        rw [Int.natAbs_natCast]
        omega
      · exact upd_same
      · rw [upd_ne ne, upd_same]
      · rw [upd_ne ne] at nx; exact nx
      · rw [upd_ne ne] at nx
        exact q2 i e _ _ (s1.trans (same_del na nx ne)) (s1.free nx) upd_same
end
end Rw
namespace Rw
open PySem PySem.Spec PyProof.Rows L2
theorem Ext.ofSame {F H H' : Hp} (s : Same F H) (t : Same H H') : Ext M0 F H F H' := ⟨Same.refl F, s.trans t, fun b o e _ => t b o e, fun b e => by
  cases q : H b with
  | none => exact absurd q e
  | some o => rw [t b o q]; simp, fun _ _ => rfl⟩
/-! ### a seat -/
def sflds (ra : Addr) (t : Int) : List (Str × V) := [("_rows", .ref ra), ("_term", .int t)]
structure SeatAt (K : PySem.W.Frag) (C : Addr) (F H : Hp) (p : Addr) (rs : List Row) (t : Int) : Prop where
  ob : ∃ dx ra, H p = some (.ins C dx (sflds ra t)) ∧ (kL kRow).is F (.ref ra) rs
  fp : F p = none
theorem SeatAt.step {K : PySem.W.Frag} {C : Addr} {F H F' H' : Hp} {p : Addr} {rs : List Row} {t : Int} {M : Addr → Prop} (A : SeatAt K C F H p rs t) (X : Ext M F H F' H') (h : ¬ M p) : SeatAt K C F' H' p rs t := by
  obtain ⟨dx, ra, ob, kr⟩ := A.ob
  exact ⟨⟨dx, ra, X.hh _ _ ob h, (kL kRow).mono X.ff kr⟩, by rw [X.new _ (by rw [ob]; simp)]; exact A.fp⟩
structure TxS (K : PySem.W.Frag) (mg : Str → Option Value) (C : Addr) : Prop where
  cl : Cls K C
  nR : NoAttr K C "_rows"
  nT : NoAttr K C "_term"
  list : mg "list" = none
  max : mg "max" = none
  first : ∃ t, mg "FIRST_TERM" = some (.int 1 t)
section
variable (ra : Addr) (t : Int)
theorem sl_rows : (sflds ra t).lookup ("_rows" : Str) = some (.ref ra) := by kernel_rfl
theorem sl_term : (sflds ra t).lookup ("_term" : Str) = some (.int t) := by kernel_rfl
theorem sl_holds : (sflds ra t).lookup ("holds" : Str) = none := by kernel_rfl
theorem sl_hold : (sflds ra t).lookup ("hold" : Str) = none := by kernel_rfl
theorem sl_keep : (sflds ra t).lookup ("keep" : Str) = none := by kernel_rfl
theorem sl_ask : (sflds ra t).lookup ("ask" : Str) = none := by kernel_rfl
theorem sl_last : (sflds ra t).lookup ("last_term" : Str) = none := by kernel_rfl
theorem sp_rows (rb : Addr) : putF "_rows" (.ref rb) (sflds ra t) = sflds rb t := by kernel_rfl
theorem sp_term (u : Int) : putF "_term" (.int u) (sflds ra t) = sflds ra u := by kernel_rfl
theorem sf_len : (sflds ra t).length < 1000 := by show 2 < 1000; decide
theorem sf_init : putF "_term" (.int t) (putF "_rows" (.ref ra) []) = sflds ra t := by kernel_rfl
end
def CalM (P : Program) (w : World) (K : PySem.W.Frag) (mg : Str → Option Value) (base : Heap) (C : Addr) (k : Nat) (x : Str) (ps : List Str) (sp : Sp) : Prop :=
  ∃ (f : Addr) (fd : FuncData), FnOk P w K mg base CX0 k f fd ps sp ∧ Meth K C x f ∧ Binds K fd ps []
/-- .. that may refuse -/
def CalMX (P : Program) (w : World) (K : PySem.W.Frag) (mg : Str → Option Value) (base : Heap) (C : Addr) (k : Nat) (x : Str) (ps : List Str) (sp : Sp) : Prop :=
  ∃ (f : Addr) (fd : FuncData), FnOk P w K mg base (L2.CX P w) k f fd ps sp ∧ Meth K C x f ∧ Binds K fd ps []
def CalX (P : Program) (w : World) (K : PySem.W.Frag) (mg : Str → Option Value) (base : Heap) (k : Nat) (x : Str) (ps : List Str) (sp : Sp) : Prop :=
  ∃ (f : Addr) (fd : FuncData), FnOk P w K mg base (L2.CX P w) k f fd ps sp ∧ mg x = some (.ref f) ∧ PySem.W.keepIn K (.ref f) = true ∧ Binds K fd ps []
/-- a refusal without a number may be made -/
def ExMk (K : PySem.W.Frag) (mg : Str → Option Value) (i : Nat) : Prop := PySem.W.excIn K (exC K i) [.type "ValueError", .type "Exception", .type "BaseException", .type "object"] "ValueError.__new__" = true ∧ mg (exN.getD i "") = some (.ref (exC K i)) ∧ PySem.W.keepIn K (.ref (exC K i)) = true ∧
  PySem.W.subIn K (.ref (exC K i)) (.type "BaseException") = some true ∧ PySem.W.typeIn K (.ref (exC K i)) = some (.type "type")
/-! promises -/
def spSInit (C : Addr) (K : PySem.W.Frag) : Sp := fun vs H Q _ => ∃ (F : Hp) (x dx : Addr), vs = [.ref x] ∧ Same F H ∧ H x = some (.ins C dx []) ∧ F x = none ∧ ∀ (F' H' : Hp), Ext (· = x) F H F' H' → SeatAt K C F' H' x [] 0 → Q .non H'
def spHolds (K : PySem.W.Frag) (C : Addr) : Sp := fun vs H Q _ => ∃ (F : Hp) (p : Addr) (rs : List Row) (t : Int), vs = [.ref p] ∧ Same F H ∧ SeatAt K C F H p rs t ∧ RetL M0 F H kRow (· = rs) Q
def spLastTerm (K : PySem.W.Frag) (C : Addr) : Sp := fun vs H Q _ => ∃ (F : Hp) (p : Addr) (rs : List Row) (t : Int), vs = [.ref p] ∧ SeatAt K C F H p rs t ∧ Q (.int t) H
/-- what a seat tells and holds behind it -/
def RetS (K : PySem.W.Frag) (C : Addr) (F H : Hp) (p : Addr) (t : Int) (φ : List Row → Prop) (Q : VK) : Prop := ∀ (F' H' : Hp) (a : Addr) (vs : List V) (out : List Row), Ext (· = p) F H F' H' → SeatAt K C F' H' p out t → φ out → H a = none → F' a = none → H' a = some (.lst vs) → Paired (kRow.is F') vs out → Q (.ref a) H'
def spHold (K : PySem.W.Frag) (C : Addr) : Sp := fun vs H Q E => ∃ (F : Hp) (p : Addr) (rs : List Row) (t : Int) (v : V) (more : List Row), vs = [.ref p, v] ∧ Same F H ∧ SeatAt K C F H p rs t ∧ (kL kRow).is F v more ∧ more.length ≤ 200 ∧ Valid rs ∧ rs.length ≤ 50000 ∧
  (badAt more = none → RetS K C F H p t (Fewest (rs ++ more)) Q) ∧ ∀ i, badAt more = some i → BadAt K H i E
def spAsk (K : PySem.W.Frag) (C : Addr) : Sp := fun vs H Q E => ∃ (F : Hp) (p : Addr) (rs : List Row) (t u : Int), vs = [.ref p, .int u] ∧ Same F H ∧ SeatAt K C F H p rs t ∧ (u ≤ t → E (.ref (exC K 7)) none H) ∧ (t < u → RetS K C F H p u (· = rs) Q)
def spKeep (K : PySem.W.Frag) (C : Addr) : Sp := fun vs H Q E => ∃ (F : Hp) (p : Addr) (rs : List Row) (t u : Int) (v : V) (more : List Row), vs = [.ref p, .int u, v] ∧ Same F H ∧ SeatAt K C F H p rs t ∧ (kL kRow).is F v more ∧ more.length ≤ 200 ∧ Valid rs ∧ rs.length ≤ 50000 ∧
  (u < max t 1 → E (.ref (exC K 7)) none H) ∧ (max t 1 ≤ u → (badAt more = none → RetS K C F H p u (Fewest (rs ++ more)) Q) ∧ ∀ i, badAt more = some i → BadAt K H i E)
section
variable {P : Program} {w : World} {K : PySem.W.Frag} {mg : Str → Option Value} {base : Heap} {C : Addr}
end
end Rw
namespace Rw
open PySem PySem.Spec PyProof.Rows L2
/-! ### frames that may take tuples in; M: what may change -/
structure XM (M : Addr → Prop) (F H F' H' : Hp) : Prop where
  ff : Same F F'
  fh : Same F' H'
  hh : ∀ b o, H b = some o → ¬ M b → H' b = some o
  tr : ∀ b, H b ≠ none → H' b ≠ none
  nw : ∀ b o, H b = some o → (∀ xs, o ≠ .tup xs) → F' b = F b
section
variable {M M' : Addr → Prop} {F H F' H' F'' H'' : Hp} {p : Addr} {o : HO}
theorem XM.of (X : Ext M F H F' H') : XM M F H F' H' := ⟨X.ff, X.fh, X.hh, X.tr, fun b o e _ => X.new b (by rw [e]; simp)⟩
theorem XM.refl (s : Same F H) : XM M F H F H := .of ((Ext.refl s).up)
theorem XM.mono (a : XM M F H F' H') (h : ∀ b, M b → M' b) : XM M' F H F' H' := ⟨a.ff, a.fh, fun c u e m => a.hh c u e fun z => m (h c z), a.tr, a.nw⟩
theorem XM.free (a : XM M F H F' H') (h : H' p = none) : H p = none := by
  cases q : H p with
  | none => rfl
  | some u => exact absurd h (a.tr p (by rw [q]; simp))
/-- going on: what the first may change is no frozen thing of the second -/
theorem XM.then (a : XM M F H F' H') (b : XM M' F' H' F'' H'') (fm : ∀ c u, H c = some u → M c → (∀ xs, u ≠ .tup xs) → ∃ u', H' c = some u' ∧ ∀ xs, u' ≠ .tup xs) : XM (fun c => M c ∨ M' c) F H F'' H'' := by
  refine ⟨a.ff.trans b.ff, b.fh, fun c u e m => b.hh c u (a.hh c u e fun z => m (.inl z)) fun z => m (.inr z), fun c h => b.tr c (a.tr c h), fun c u e t => ?_⟩
  by_cases mc : M c
  · obtain ⟨u', e', t'⟩ := fm c u e mc t
    exact (b.nw c u' e' t').trans (a.nw c u e t)
  · exact (b.nw c u (a.hh c u e mc) t).trans (a.nw c u e t)
theorem XM.step (a : XM M F H F' H') (b : Ext M0 F' H' F'' H'') : XM M F H F'' H'' :=
  ⟨a.ff.trans b.ff, b.fh, fun c u e m => b.hh c u (a.hh c u e m) id, fun c h => b.tr c (a.tr c h), fun c u e t => (b.new c (a.tr c (by rw [e]; simp))).trans (a.nw c u e t)⟩
theorem XM.go (a : XM M F H F' H') (b : Ext M F' H' F'' H'') : XM M F H F'' H'' :=
  ⟨a.ff.trans b.ff, b.fh, fun c u e m => b.hh c u (a.hh c u e m) m, fun c h => b.tr c (a.tr c h), fun c u e t => (b.new c (a.tr c (by rw [e]; simp))).trans (a.nw c u e t)⟩
theorem XM.lay (a : XM M F H F' H') (h : H' p = none) : XM M F H (upd F' p o) (upd H' p o) := a.step ((Ext.refl a.fh).lay h)
theorem XM.tmp (a : XM M F H F' H') (h : H' p = none) : XM M F H F' (upd H' p o) := a.step ((Ext.refl a.fh).tmp h)
theorem XM.put (a : XM M F H F' H') (h : H p = none ∨ M p) (f : F' p = none) : XM M F H F' (upd H' p o) := by
  refine ⟨a.ff, same_put a.fh f, fun b u e m => ?_, fun b e => ?_, a.nw⟩
  · have hb : b ≠ p := fun z => by
      subst z
      rcases h with h | h
      · rw [h] at e; cases e
      · exact m h
    rw [upd_ne hb]; exact a.hh b u e m
  · by_cases hb : b = p
    · subst hb; rw [upd_same]; simp
    · rw [upd_ne hb]; exact a.tr b e
theorem XM.absb (a : XM M F H F' H') (fm : ∀ c, M c → ∀ xs, H' c ≠ some (.tup xs)) : XM M F H (Rw.absb F' H') H' :=
  ⟨a.ff.trans (absb_sub a.fh), absb_same a.fh, a.hh, a.tr, fun b u e t => by
    by_cases mb : M b
    · rw [absb_ne (fm b mb)]
      exact a.nw b u e t
    · rw [absb_ne (fun xs z => by rw [a.hh b u e mb] at z; exact t xs (Option.some.inj z))]
      exact a.nw b u e t⟩
theorem XM.frz (a : XM M F H F' H') (h : H p = none) (f : F' p = none) (e : H' p = some o) : XM M F H (upd F' p o) H' := by
  refine ⟨a.ff.trans (same_upd f), fun b u z => ?_, a.hh, a.tr, fun b u z t => ?_⟩
  · by_cases hb : b = p
    · subst hb; rw [upd_same] at z; cases z; exact e
    · rw [upd_ne hb] at z; exact a.fh b u z
  · rw [upd_ne (ne_of_none z h)]; exact a.nw b u z t
end
theorem DiceAt.xm {K : PySem.W.Frag} {F H F' H' : Hp} {d s : Addr} {ns : List Int} {M : Addr → Prop} (D : DiceAt K F H d s ns) (X : XM M F H F' H') (h : ¬ M d) : DiceAt K F' H' d s ns := by
  obtain ⟨i, m, r, hd, g⟩ := D.ex
  exact ⟨X.fh, by rw [X.nw d _ hd fun xs z => by cases z]; exact D.fd, X.ff.seq D.sc, i, m, r, X.hh _ _ hd h, g⟩
theorem SeatAt.xm {K : PySem.W.Frag} {C : Addr} {F H F' H' : Hp} {p : Addr} {rs : List Row} {t : Int} {M : Addr → Prop} (A : SeatAt K C F H p rs t) (X : XM M F H F' H') (h : ¬ M p) : SeatAt K C F' H' p rs t := by
  obtain ⟨dx, ra, ob, kr⟩ := A.ob
  exact ⟨⟨dx, ra, X.hh _ _ ob h, (kL kRow).mono X.ff kr⟩, by rw [X.nw _ _ ob fun xs z => by cases z]; exact A.fp⟩
/-! ### the law's own seat -/
def ownV (t : Int) (r : Addr) : List (Key × V) := [(.inr "term", .int t), (.inr "rows", .ref r)]
theorem own_term (t : Int) (r : Addr) : valV (ownV t r) (Sum.inr "term" : Key) = some (.int t) := by rfl
theorem own_rows (t : Int) (r : Addr) : valV (ownV t r) (Sum.inr "rows" : Key) = some (.ref r) := by rfl
theorem own_put (t u : Int) (r : Addr) : putK (ownV t r) (Sum.inr "term" : Key) (.int u) = ownV u r := by rfl
structure OwnAt (F H : Hp) (w r : Addr) (t : Int) (ps : List Pt) : Prop where
  hw : H w = some (.dK (ownV t r))
  fw : F w = none
  hr : ∃ kvs, H r = some (.dT kvs) ∧ DKy kvs ps
  fr : F r = none
theorem OwnAt.xm {F H F' H' : Hp} {w r : Addr} {t : Int} {ps : List Pt} {M : Addr → Prop} (A : OwnAt F H w r t ps) (X : XM M F H F' H') (h1 : ¬ M w) (h2 : ¬ M r) : OwnAt F' H' w r t ps := by
  obtain ⟨kvs, hr, dk⟩ := A.hr
  exact ⟨X.hh _ _ A.hw h1, by rw [X.nw _ _ A.hw fun xs z => by cases z]; exact A.fw, ⟨kvs, X.hh _ _ hr h2, dk⟩, by rw [X.nw _ _ hr fun xs z => by cases z]; exact A.fr⟩
theorem OwnAt.ne {F H : Hp} {w r : Addr} {t : Int} {ps : List Pt} (A : OwnAt F H w r t ps) : w ≠ r := fun e => by
  obtain ⟨kvs, hr, dk⟩ := A.hr
  rw [← e, A.hw] at hr
  cases hr
/-- the rows of a set of names -/
structure RowsOf (ps : List Pt) (out : List Row) : Prop where
  can : Canon out
  mem : ∀ p, mem out p ↔ p ∈ ps
  len : out.length ≤ ps.length
theorem RowsOf.uniq {ps : List Pt} {a b : List Row} (x : RowsOf ps a) (y : RowsOf ps b) : a = b := Canon.uniq x.can y.can fun p => (x.mem p).trans (y.mem p).symm
/-- rows told, and the own seat behind it -/
def RetO (F H : Hp) (M : Addr → Prop) (w r : Addr) (u : Int) (φ : List Pt → Prop) (Q : VK) : Prop := ∀ (F' H' : Hp) (a : Addr) (vs : List V) (out : List Row) (ps : List Pt), XM M F H F' H' → OwnAt F' H' w r u ps → φ ps → RowsOf ps out → H a = none → F' a = none → H' a = some (.lst vs) → Paired (kRow.is F') vs out → Q (.ref a) H'
def spLSeat : Sp := fun vs H Q _ => ∃ (F : Hp), vs = [] ∧ Same F H ∧ ∀ (F' H' : Hp) (w r : Addr), Ext M0 F H F' H' → H w = none → H r = none → OwnAt F' H' w r 0 [] → Q (.ref w) H'
def spAsked : Sp := fun vs H Q _ => ∃ (F : Hp) (w r : Addr) (t u : Int) (ps : List Pt), vs = [.ref w, .int u] ∧ Same F H ∧ OwnAt F H w r t ps ∧ ps.length ≤ 100000 ∧ (u ≤ t → Q (.str "old") H) ∧ (t < u → RetO F H (· = w) w r u (· = ps) Q)
def spLKept : Sp := fun vs H Q _ => ∃ (F : Hp) (w r : Addr) (t u : Int) (ps : List Pt) (v : V) (more : List Row), vs = [.ref w, .int u, v] ∧ Same F H ∧ OwnAt F H w r t ps ∧ ps.length ≤ 50000 ∧ (kL kRow).is F v more ∧ Small more ∧ more.length ≤ 10 ∧ (u < max 1 t → Q (.str "old") H) ∧
  (max 1 t ≤ u → RetO F H (fun b => b = w ∨ b = r) w r u (fun qs => ∀ p, p ∈ qs ↔ p ∈ ps ∨ mem more p) Q)
theorem kPt_absb {F H : Hp} {v : V} {p : Pt} (h : kPt.is H v p) : kPt.is (absb F H) v p := by
  obtain ⟨t, e, ht⟩ := h
  exact ⟨t, e, absb_tup ht⟩
section
variable {P : Program} {w : World} {K : PySem.W.Frag} {mg : Str → Option Value} {base : Heap}
/-- told_rows(sorted(own["rows"])), the own seat at hand -/
theorem told_own {F F1 H H1 : Hp} {M : Addr → Prop} {w r : Addr} {u : Int} {ps : List Pt} {φ : List Pt → Prop} {Q : VK} (X : XM M F H F1 H1) (A : OwnAt F1 H1 w r u ps) (fm : ∀ c, M c → ∀ xs, H1 c ≠ some (.tup xs)) (lp : ps.length ≤ 100000) (hφ : φ ps) (q : RetO F H M w r u φ Q) :
    ∀ (ys : List V) (qs : List Pt) (p : Addr), Paired (kPt.is H1) ys qs → qs.Perm ps → qs.Pairwise lt2 → H1 p = none → spTold [.ref p] (upd H1 p (.lst ys)) Q E0 := by
  intro ys qs p hys hperm hsort np
  have X2 := X.absb fm
  have nf := X2.fh.free np
  have X3 := X2.lay (o := .lst ys) np
  have A3 : OwnAt (upd (absb F1 H1) p (.lst ys)) (upd H1 p (.lst ys)) w r u ps := by
    have Y : XM M0 F1 H1 (upd (absb F1 H1) p (.lst ys)) (upd H1 p (.lst ys)) := ((XM.refl X.fh).absb fun c z => z.elim).lay np
    exact A.xm Y id id
  have kq : (kL kPt).is (upd (absb F1 H1) p (.lst ys)) (.ref p) qs := kL_new nf (pr_mono (fun _ _ z => kPt_absb z) hys)
  refine ⟨_, .ref p, qs, rfl, X3.fh, kq, hsort, by rw [hperm.length_eq]; omega, fun F4 H4 a vs out X4 na fa ha hp4 tl => ?_⟩
  exact q F4 H4 a vs out ps (X3.step X4) (A3.xm (.of X4) id id) hφ ⟨tl.can, fun p => by rw [tl.mem p, hperm.mem_iff], by have := tl.len; rw [hperm.length_eq] at this; exact this⟩ (X3.free na) fa ha hp4
end
end Rw
namespace Rw
open PySem PySem.Spec PyProof.Rows L2
/-! ### _law_told(lambda: ..), in one -/
def tTold1 (X : Cx) (P : Addr) (tb : XK → TE) : TE := fun σ H Q => LamX.TabS H P (X.env.qual ++ "<lambda>") ∧ ∀ H1, Grow P H H1 → LamX.TabS H1 P (X.env.qual ++ "<lambda>") → tb (EW X.K Q) σ H1 Q
theorem pe_told1 {X : Cx} {tb : XK → TE} {k : Nat} {g c P : Addr} {fd : FuncData} {ps : Arguments} {body : Expr} {sc : Scope} {lpos p pos : Pos} (df : Df) (T : ToldC X.K X.mg) (F : Fun X.K "_law_told" "_law_told" s_law_told g fd) (hg : Gl X "_law_told") (hm : X.mg "_law_told" = some (.ref g))
    (hr : Room (k + 2) X.A) (TB : LamX.TabB X.base X.mg c P) (hcode : X.env.code = .ref c) (hok : lamOkB X.N X.env.scope ⟨ps, body, sc, df⟩ = true) (hdf : DfIs ⟨ps, body, sc, df⟩) (hb : DfB ⟨ps, body, sc, df⟩)
    (hbody : ∀ (E : XK) (A : Around) (outer : List Env) (s : Shared) (H : Hp) (f c' : Addr), Room k (A.deeper (lEnv X ⟨ps, body, sc, df⟩ s.heap.objs.size f c')) → PE (lCx X A outer s H E ⟨ps, body, sc, df⟩ f c') body (tb E))
    (h1 : starEach [.Lambda ps body sc lpos] X.env = (false, eval (.Lambda ps body sc lpos) X.env) :: starEach [] X.env := by rfl) (h2 : (backTo pos (starEach [] X.env)).any (·.1) = false := by rfl) :
    PE X (.Call (.Name "_law_told" p) [.Lambda ps body sc lpos] [] pos) (tTold1 X P tb) := by
  have L := lamOk_by hok
  have he := pe_lamV (X := X) (l := ⟨ps, body, sc, df⟩) (pos := lpos) rfl rfl rfl TB hcode L.free hdf
  have ht := pe_told (LS := [⟨ps, body, sc, df⟩]) (tb := fun E _ => tb E) (p := p) (pos := pos) T F hg hm hr he (fun l hl => by
    obtain rfl := List.mem_singleton.mp hl
    exact ⟨L, hb, hbody⟩) h1 h2
  refine ⟨fun pins s σ H Q I h => ht.run pins s σ H Q I ?_⟩
  obtain ⟨hT, h⟩ := h
  exact ⟨hT, fun f H1 gr tab nf la => ⟨_, List.mem_singleton.mpr rfl, f, rfl, la, h H1 gr tab⟩⟩
theorem EW.plain {K : PySem.W.Frag} {Q : VK} {H : Hp} (i : Nat) (hi : i < 9) (h1 : ¬ (i = 0 ∨ i = 3 ∨ i = 8)) (h2 : i ≠ 5) (q : ∀ H' t, Same H H' → H t = none → H' t = some (.tup [.str (exW i)]) → Q (.ref t) H') : EW K Q (.ref (exC K i)) none H := by
  refine ⟨i, hi, rfl, fun dd e => (nomatch e), ?_⟩
  rw [if_neg h1, if_neg h2]
  exact q
theorem EW.bad {K : PySem.W.Frag} {Q : VK} {H : Hp} {i : Nat} (q : ∀ H' t, Same H H' → H t = none → H' t = some (.tup [.str "stretches", .int i]) → Q (.ref t) H') : BadAt K H i (EW K Q) := by
  intro H' d sm nd hd
  refine ⟨0, by decide, rfl, fun dd e => by cases e; exact ⟨_, hd⟩, ?_⟩
  rw [if_pos (.inl rfl)]
  exact ⟨d, _, .int i, rfl, hd, rfl, fun H2 t s2 n2 e2 => q H2 t (sm.trans s2) (sm.free n2) e2⟩
/-! ### two seats and their own -/
structure Sd where
  p : Addr
  w : Addr
  r : Addr
  t : Int
  ps : List Pt
  rs : List Row
def Bx (q : Pt) : Prop := 0 ≤ q.1 ∧ q.1 ≤ 2 ∧ 1 ≤ q.2 ∧ q.2 ≤ 9
structure SideAt (K : PySem.W.Frag) (C : Addr) (F H : Hp) (x : Sd) : Prop where
  seat : SeatAt K C F H x.p x.rs x.t
  own : OwnAt F H x.w x.r x.t x.ps
  rows : RowsOf x.ps x.rs
  box : ∀ q ∈ x.ps, Bx q
  t0 : 0 ≤ x.t
def box27 : List Pt := (List.range 3).flatMap fun (h : Nat) => (List.range 9).map fun (n : Nat) => ((h : Int), (n : Int) + 1)
theorem box27_len : box27.length = 27 := by decide +kernel
theorem box27_mem {p : Pt} (b : Bx p) : p ∈ box27 := by
  obtain ⟨a, b, c, e⟩ := b
  refine List.mem_flatMap.mpr ⟨p.1.toNat, by simp; omega, List.mem_map.mpr ⟨(p.2 - 1).toNat, by simp; omega, Prod.ext ?_ ?_⟩⟩
  · show (p.1.toNat : Int) = p.1; omega
  · show ((p.2 - 1).toNat : Int) + 1 = p.2; omega
end Rw
namespace Rw
open PySem PySem.Spec PyProof.Rows L2
def qDeed : Str := ("_law_deed" : Str) ++ ".<locals>." ++ "<lambda>"
/-- the state within a deed: the seat's and the law's own may part -/
structure B21 (K : PySem.W.Frag) (C d s : Addr) (ns : List Int) (P : Addr) (F H : Hp) (p w r : Addr) (rs : List Row) (t u : Int) (ps : List Pt) (y : Sd) : Prop where
  dice : DiceAt K F H d s ns
  tab : LamX.TabS H P qDeed
  fP : F P = none
  seat : SeatAt K C F H p rs t
  own : OwnAt F H w r u ps
  sy : SideAt K C F H y
  np : p ≠ y.p
  nw : w ≠ y.w
  nr : r ≠ y.r
section
variable {K : PySem.W.Frag} {C d s : Addr} {ns : List Int} {P : Addr} {F H F' H' : Hp} {p w r : Addr} {rs : List Row} {t u : Int} {ps : List Pt} {y : Sd} {M : Addr → Prop}
theorem SideAt.xm {x : Sd} (S : SideAt K C F H x) (X : XM M F H F' H') (h1 : ¬ M x.p) (h2 : ¬ M x.w) (h3 : ¬ M x.r) : SideAt K C F' H' x := ⟨S.seat.xm X h1, S.own.xm X h2 h3, S.rows, S.box, S.t0⟩
theorem B21.same (B : B21 K C d s ns P F H p w r rs t u ps y) : Same F H := B.dice.fh
theorem TabS.xm {q : Str} (T : LamX.TabS H P q) (X : XM M F H F' H') (h : ¬ M P) (hc : ∀ c o, H c = some o → (∀ xs, o ≠ .tup xs) → M c → ∀ φ, o ≠ .ext φ) : LamX.TabS H' P q := by
  obtain ⟨pp, h1, h2, h3⟩ := T
  refine ⟨pp, X.hh _ _ h1 h, h2, fun pos cv hcv => ?_⟩
  obtain ⟨c, e1, e2⟩ := h3 pos cv hcv
  refine ⟨c, e1, X.hh _ _ e2 fun m => ?_⟩
  exact hc c _ e2 (fun xs z => by unfold LamX.CodeO at z; cases z) m _ rfl
/-- the places of a deed and what stands there -/
theorem B21.kinds (B : B21 K C d s ns P F H p w r rs t u ps y) : (∃ xs, H d = some (.lst xs)) ∧ (∃ pp, H P = some (.tbl pp)) ∧ (∃ dx fs, H p = some (.ins C dx fs)) ∧ (∃ kv, H w = some (.dK kv)) ∧ (∃ kv, H r = some (.dT kv)) ∧ (∃ dx fs, H y.p = some (.ins C dx fs)) ∧ (∃ kv, H y.w = some (.dK kv)) ∧ ∃ kv, H y.r = some (.dT kv) := by
  obtain ⟨i, m, r', hd, g⟩ := B.dice.ex
  obtain ⟨pp, hp, _⟩ := B.tab
  obtain ⟨dx, ra, ob, _⟩ := B.seat.ob
  obtain ⟨kv, hr, _⟩ := B.own.hr
  obtain ⟨dx2, ra2, ob2, _⟩ := B.sy.seat.ob
  obtain ⟨kv2, hr2, _⟩ := B.sy.own.hr
  exact ⟨⟨_, hd⟩, ⟨_, hp⟩, ⟨_, _, ob⟩, ⟨_, B.own.hw⟩, ⟨_, hr⟩, ⟨_, _, ob2⟩, ⟨_, B.sy.own.hw⟩, ⟨_, hr2⟩⟩
/-- a step that changes no more than the deed's own -/
theorem B21.go {rs' : List Row} {t' u' : Int} {ps' : List Pt} (B : B21 K C d s ns P F H p w r rs t u ps y) (X : XM M F H F' H') (hM : ∀ b, M b → H b = none ∨ b = d ∨ b = P ∨ b = p ∨ b = w ∨ b = r) (D : DiceAt K F' H' d s ns) (T : LamX.TabS H' P qDeed) (A : SeatAt K C F' H' p rs' t') (O : OwnAt F' H' w r u' ps') :
    B21 K C d s ns P F' H' p w r rs' t' u' ps' y := by
  obtain ⟨⟨_, kd⟩, ⟨_, kP⟩, ⟨_, _, kp⟩, ⟨_, kw⟩, ⟨_, kr⟩, ⟨_, _, k1⟩, ⟨_, k2⟩, ⟨_, k3⟩⟩ := B.kinds
  refine ⟨D, T, by rw [X.nw P _ kP fun xs z => by cases z]; exact B.fP, A, O, B.sy.xm X (fun m => ?_) (fun m => ?_) (fun m => ?_), B.np, B.nw, B.nr⟩
  · rcases hM _ m with e | e | e | e | e | e
    · rw [k1] at e; cases e
    · rw [e, kd] at k1; cases k1
    · rw [e, kP] at k1; cases k1
    · exact B.np e.symm
    · rw [e, kw] at k1; cases k1
    · rw [e, kr] at k1; cases k1
  · rcases hM _ m with e | e | e | e | e | e
    · rw [k2] at e; cases e
    · rw [e, kd] at k2; cases k2
    · rw [e, kP] at k2; cases k2
    · rw [e, kp] at k2; cases k2
    · exact B.nw e.symm
    · rw [e, kr] at k2; cases k2
  · rcases hM _ m with e | e | e | e | e | e
    · rw [k3] at e; cases e
    · rw [e, kd] at k3; cases k3
    · rw [e, kP] at k3; cases k3
    · rw [e, kp] at k3; cases k3
    · rw [e, kw] at k3; cases k3
    · exact B.nr e.symm
theorem B21.quiet (B : B21 K C d s ns P F H p w r rs t u ps y) (X : XM M0 F H F' H') : B21 K C d s ns P F' H' p w r rs t u ps y :=
  B.go X (fun b z => z.elim) (B.dice.xm X id) (TabS.xm B.tab X id fun _ _ _ _ m => m.elim) (B.seat.xm X id) (B.own.xm X id id)
theorem B21.dice' (B : B21 K C d s ns P F H p w r rs t u ps y) (X : Ext (· = d) F H F' H') (D : DiceAt K F' H' d s ns) : B21 K C d s ns P F' H' p w r rs t u ps y := by
  obtain ⟨⟨_, kd⟩, ⟨_, kP⟩, ⟨_, _, kp⟩, ⟨_, kw⟩, ⟨_, kr⟩, _⟩ := B.kinds
  refine B.go (.of X) (fun b e => .inr (.inl e)) D (TabS.xm B.tab (.of X) (fun e => ?_) fun c o hc _ e φ z => ?_) (B.seat.xm (.of X) fun e => ?_) (B.own.xm (.of X) (fun e => ?_) fun e => ?_)
  · rw [show P = d from e, kd] at kP; cases kP
  · rw [show c = d from e, kd] at hc
    cases hc
    cases z
  · rw [show p = d from e, kd] at kp; cases kp
  · rw [show w = d from e, kd] at kw; cases kw
  · rw [show r = d from e, kd] at kr; cases kr
theorem B21.grow {H1 : Hp} (B : B21 K C d s ns P F H p w r rs t u ps y) (g : Grow P H H1) (T : LamX.TabS H1 P qDeed) : B21 K C d s ns P F H1 p w r rs t u ps y := by
  obtain ⟨⟨_, kd⟩, ⟨_, kP⟩, ⟨_, _, kp⟩, ⟨_, kw⟩, ⟨_, kr⟩, _⟩ := B.kinds
  have X := XM.of (g.ext B.same B.fP)
  refine B.go X (fun b e => .inr (.inr (.inl e))) (B.dice.xm X fun e => ?_) T (B.seat.xm X fun e => ?_) (B.own.xm X (fun e => ?_) fun e => ?_)
  · rw [show d = P from e, kP] at kd; cases kd
  · rw [show p = P from e, kP] at kp; cases kp
  · rw [show w = P from e, kP] at kw; cases kw
  · rw [show r = P from e, kP] at kr; cases kr
theorem B21.seat' {rs' : List Row} {t' : Int} (B : B21 K C d s ns P F H p w r rs t u ps y) (X : Ext (· = p) F H F' H') (A : SeatAt K C F' H' p rs' t') : B21 K C d s ns P F' H' p w r rs' t' u ps y := by
  obtain ⟨⟨_, kd⟩, ⟨_, kP⟩, ⟨_, _, kp⟩, ⟨_, kw⟩, ⟨_, kr⟩, _⟩ := B.kinds
  refine B.go (.of X) (fun b e => .inr (.inr (.inr (.inl e)))) (B.dice.xm (.of X) fun e => ?_) (TabS.xm B.tab (.of X) (fun e => ?_) fun c o hc _ e φ z => ?_) A (B.own.xm (.of X) (fun e => ?_) fun e => ?_)
  · rw [show d = p from e, kp] at kd; cases kd
  · rw [show P = p from e, kp] at kP; cases kP
  · rw [show c = p from e, kp] at hc
    cases hc
    cases z
  · rw [show w = p from e, kp] at kw; cases kw
  · rw [show r = p from e, kp] at kr; cases kr
theorem B21.own' {w2 : Addr} {u' : Int} {ps' : List Pt} (B : B21 K C d s ns P F H p w r rs t u ps y) (X : XM (fun b => b = w2 ∨ b = r) F H F' H') (hw : w2 = w ∨ H w2 = none) (A : OwnAt F' H' w r u' ps') : B21 K C d s ns P F' H' p w r rs t u' ps' y := by
  obtain ⟨⟨_, kd⟩, ⟨_, kP⟩, ⟨_, _, kp⟩, ⟨_, kw⟩, ⟨_, kr⟩, _⟩ := B.kinds
  have nm : ∀ {c : Addr} {o : HO}, H c = some o → (∀ kv, o ≠ .dK kv) → (∀ kv, o ≠ .dT kv) → ¬ (c = w2 ∨ c = r) := by
    rintro c o hc n1 n2 (e | e)
    · rcases hw with z | z
      · rw [e, z, kw] at hc; exact n1 _ (Option.some.inj hc).symm
      · rw [e, z] at hc; cases hc
    · rw [e, kr] at hc; exact n2 _ (Option.some.inj hc).symm
  refine B.go X (fun b e => e.elim (fun e => hw.elim (fun z => .inr (.inr (.inr (.inr (.inl (e.trans z)))))) fun z => .inl (by rw [e]; exact z)) fun e => .inr (.inr (.inr (.inr (.inr e))))) (B.dice.xm X (nm kd (fun _ z => by cases z) fun _ z => by cases z)) (TabS.xm B.tab X (nm kP (fun _ z => by cases z) fun _ z => by cases z) fun c o hc _ m φ z => ?_) (B.seat.xm X (nm kp (fun _ z => by cases z) fun _ z => by cases z)) A
  subst z
  exact nm hc (fun _ z => by cases z) (fun _ z => by cases z) m
end
/-- two seats, each with its own -/
structure S21 (K : PySem.W.Frag) (C d s : Addr) (ns : List Int) (P : Addr) (F H : Hp) (x y : Sd) : Prop where
  dice : DiceAt K F H d s ns
  tab : LamX.TabS H P qDeed
  fP : F P = none
  sx : SideAt K C F H x
  sy : SideAt K C F H y
  np : x.p ≠ y.p
  nw : x.w ≠ y.w
  nr : x.r ≠ y.r
theorem S21.swap {K : PySem.W.Frag} {C d s : Addr} {ns : List Int} {P : Addr} {F H : Hp} {x y : Sd} (S : S21 K C d s ns P F H x y) : S21 K C d s ns P F H y x := ⟨S.dice, S.tab, S.fP, S.sy, S.sx, S.np.symm, S.nw.symm, S.nr.symm⟩
theorem S21.b {K : PySem.W.Frag} {C d s : Addr} {ns : List Int} {P : Addr} {F H : Hp} {x y : Sd} (S : S21 K C d s ns P F H x y) : B21 K C d s ns P F H x.p x.w x.r x.rs x.t x.t x.ps y := ⟨S.dice, S.tab, S.fP, S.sx.seat, S.sx.own, S.sy, S.np, S.nw, S.nr⟩
theorem B21.s {K : PySem.W.Frag} {C d s : Addr} {ns : List Int} {P : Addr} {F H : Hp} {p w r : Addr} {rs : List Row} {t : Int} {ps : List Pt} {y : Sd} (B : B21 K C d s ns P F H p w r rs t t ps y) (R : RowsOf ps rs) (bx : ∀ q ∈ ps, Bx q) (t0 : 0 ≤ t) : S21 K C d s ns P F H ⟨p, w, r, t, ps, rs⟩ y :=
  ⟨B.dice, B.tab, B.fP, ⟨B.seat, B.own, R, bx, t0⟩, B.sy, B.np, B.nw, B.nr⟩
theorem S21.quiet {K : PySem.W.Frag} {C d s : Addr} {ns : List Int} {P : Addr} {F H F' H' : Hp} {x y : Sd} (S : S21 K C d s ns P F H x y) (X : XM M0 F H F' H') : S21 K C d s ns P F' H' x y := by
  have B := S.b.quiet X
  exact ⟨B.dice, B.tab, B.fP, S.sx.xm X id id id, B.sy, B.np, B.nw, B.nr⟩
theorem SideAt.len {K : PySem.W.Frag} {C : Addr} {F H : Hp} {x : Sd} (S : SideAt K C F H x) : x.ps.length ≤ 27 ∧ x.rs.length ≤ 27 := by
  obtain ⟨kvs, hr, dk⟩ := S.own.hr
  have h1 : x.ps.length ≤ box27.length := nodup_sub x.ps box27 dk.nd fun q hq => box27_mem (S.box q hq)
  rw [box27_len] at h1
  exact ⟨h1, Nat.le_trans S.rows.len h1⟩
end Rw
namespace Rw
open PySem PySem.Spec PyProof.Rows L2
theorem seq_join {a b : TS} {D : Ends} {σ : L2.St} {H : Hp} (J : L2.St → Hp → Prop) (h2 : ∀ σ H, J σ H → b D σ H) (h1 : (∀ σ H, J σ H → b D σ H) → tSeq a b D σ H) : tSeq a b D σ H := h1 h2
theorem iteI {a b : Int} {A B : Prop} (h1 : a = b → A) (h2 : a ≠ b → B) : if decide (V.int a = V.int b) = true then A else B := by
  by_cases h : a = b
  · rw [h, decide_eq_true rfl]; exact iteT (h1 h)
  · rw [decide_eq_false fun z => h (V.int.inj z)]; exact iteF (h2 h)
theorem iteL {c : Prop} [Decidable c] {A B : Prop} (h1 : c → A) (h2 : ¬ c → B) : if decide c = true then A else B := by
  by_cases h : c
  · rw [decide_eq_true h]; exact iteT (h1 h)
  · rw [decide_eq_false h]; exact iteF (h2 h)
section
variable {K : PySem.W.Frag} {C d s : Addr} {ns : List Int} {P : Addr} {F H F' H' : Hp} {p w r b : Addr} {rs : List Row} {t u : Int} {ps : List Pt} {y : Sd} {vs : List V}
theorem SeatAt.fz (A : SeatAt K C F H p rs t) (f : F b = none) (hb : H b = some (.lst vs)) : SeatAt K C (upd F b (.lst vs)) H p rs t := by
  obtain ⟨dx, ra, ob, kr⟩ := A.ob
  exact ⟨⟨dx, ra, ob, (kL kRow).mono (same_upd f) kr⟩, by rw [upd_ne (fun e => by rw [e, hb] at ob; cases ob)]; exact A.fp⟩
theorem OwnAt.fz (A : OwnAt F H w r u ps) (f : F b = none) (hb : H b = some (.lst vs)) : OwnAt (upd F b (.lst vs)) H w r u ps := by
  obtain ⟨kvs, hr, dk⟩ := A.hr
  exact ⟨A.hw, by rw [upd_ne (fun e => by have := A.hw; rw [e, hb] at this; cases this)]; exact A.fw, ⟨kvs, hr, dk⟩, by rw [upd_ne (fun e => by rw [e, hb] at hr; cases hr)]; exact A.fr⟩
theorem DiceAt.fz (D : DiceAt K F H d s ns) (n : d ≠ b) (f : F b = none) (hb : H b = some (.lst vs)) : DiceAt K (upd F b (.lst vs)) H d s ns :=
  ⟨fun c x z => by
    by_cases hc : c = b
    · rw [hc, upd_same] at z; rw [hc, hb]; exact z
    · rw [upd_ne hc] at z; exact D.fh c x z, by rw [upd_ne n]; exact D.fd, (same_upd f).seq D.sc, D.ex⟩
theorem B21.fz (B : B21 K C d s ns P F H p w r rs t u ps y) (n : d ≠ b) (f : F b = none) (hb : H b = some (.lst vs)) : B21 K C d s ns P (upd F b (.lst vs)) H p w r rs t u ps y := by
  obtain ⟨pp, hp, _⟩ := B.tab
  exact ⟨B.dice.fz n f hb, B.tab, by rw [upd_ne (fun e => by rw [e, hb] at hp; cases hp)]; exact B.fP, B.seat.fz f hb, B.own.fz f hb, ⟨B.sy.seat.fz f hb, B.sy.own.fz f hb, B.sy.rows, B.sy.box, B.sy.t0⟩, B.np, B.nw, B.nr⟩
end
theorem drawn_ok {rows : List Row} (h : ∀ r ∈ rows, Drawn 3 9 r) : ∀ r ∈ rows, RowOk r := fun r hr => by
  obtain ⟨a, b, c, e, f⟩ := h r hr
  have eL : LIM = 1000000000000 := rfl
  exact ⟨a, by omega, c, e, by omega⟩
theorem drawn_small {rows : List Row} (h : ∀ r ∈ rows, Drawn 3 9 r) (l : (rows.length : Int) ≤ 3) : Small rows := ⟨by omega, fun r hr => by
  obtain ⟨a, b, c, e, f⟩ := h r hr
  exact ⟨c, e, by omega⟩⟩
theorem drawn_bx {rows : List Row} (h : ∀ r ∈ rows, Drawn 3 9 r) {q : Pt} (m : mem rows q) : Bx q := by
  obtain ⟨r, hr, i1, i2, i3⟩ := m
  obtain ⟨a, b, c, e, f⟩ := h r hr
  unfold Bx
  omega
def badRow : Row := (0, 2, 1)
theorem bad_at {rows : List Row} (h : ∀ r ∈ rows, Drawn 3 9 r) : badAt (rows ++ [badRow]) = some rows.length := by
  refine badAt_some (r := badRow) (fun j s hj hs => ?_) (by rw [List.getElem?_append_right (Nat.le_refl _), Nat.sub_self]; rfl) (by unfold badRow RowOk; simp only; omega)
  rw [List.getElem?_append_left hj] at hs
  exact drawn_ok h s (List.mem_of_getElem? hs)
theorem Twin.up {H : Hp} : ∀ {n : Nat} {v u : V}, Twin H n v u → Twin H (n + 1) v u
  | 0, _, _, h => h.elim
  | n + 1, v, u, .inl h => .inl h
  | n + 1, v, u, .inr ⟨a, b, xs, ys, ev, eu, h, l, e, p⟩ => .inr ⟨a, b, xs, ys, ev, eu, h, l, e, fun i x y hx hy => (p i x y hx hy).up⟩
theorem twin_int {H : Hp} {n : Nat} (i : Int) : Twin H (n + 1) (.int i) (.int i) := .inl (.inl ⟨i, rfl, rfl⟩)
theorem twin_str {H : Hp} {n : Nat} (z : Str) : Twin H (n + 1) (.str z) (.str z) := .inl (.inr (.inr (.inl ⟨z, rfl, rfl⟩)))
theorem twin_row {F H : Hp} {n : Nat} {v u : V} {r : Row} (s : Same F H) (a : kRow.is F v r) (b : kRow.is F u r) : Twin H (n + 2) v u := by
  obtain ⟨ta, rfl, ha⟩ := a
  obtain ⟨tb, rfl, hb⟩ := b
  refine .inr ⟨ta, tb, _, _, rfl, rfl, .inl ⟨s _ _ ha, s _ _ hb⟩, by show 3 ≤ 100000; decide, rfl, fun i x y hx hy => ?_⟩
  match i, hx, hy with
  | 0, hx, hy => cases hx; cases hy; exact twin_int _
  | 1, hx, hy => cases hx; cases hy; exact twin_int _
  | 2, hx, hy => cases hx; cases hy; exact twin_int _
  | i + 3, hx, hy => cases hx
theorem twin_rows {F H : Hp} {n : Nat} {a b : Addr} {vs us : List V} {out : List Row} (s : Same F H) (ha : H a = some (.lst vs)) (hb : H b = some (.lst us)) (pa : Paired (kRow.is F) vs out) (pb : Paired (kRow.is F) us out) (l : out.length ≤ 1000) : Twin H (n + 3) (.ref a) (.ref b) := by
  have e1 := pr_len pa
  have e2 := pr_len pb
  refine .inr ⟨a, b, vs, us, rfl, rfl, .inr ⟨ha, hb⟩, by omega, by omega, fun i x y hx hy => ?_⟩
  obtain ⟨r1, g1, k1⟩ := pr_get pa hx
  obtain ⟨r2, g2, k2⟩ := pr_get pb hy
  rw [g1] at g2
  cases g2
  exact twin_row s k1 k2
inductive Fit (d : Addr) (F H : Hp) : V → V → Prop where
  | old {a : Addr} (h : H a = some (.tup [.str "old"])) : Fit d F H (.str "old") (.ref a)
  | rows {a b : Addr} {vs us : List V} {out : List Row} (nd : d ≠ a) (ha : H a = some (.lst vs)) (fa : F a = none) (pa : Paired (kRow.is F) vs out) (hb : F b = some (.lst us)) (pb : Paired (kRow.is F) us out) (l : out.length ≤ 27) : Fit d F H (.ref b) (.ref a)
  | bad {a b : Addr} {z : Int} (ha : H a = some (.tup [.str "stretches", .int z])) (hb : H b = some (.tup [.str "stretches", .int z])) : Fit d F H (.ref b) (.ref a)
def J21 (K : PySem.W.Frag) (C d s : Addr) (ns : List Int) (Pd : Addr) (F0 : Hp) (x y : Sd) : L2.St → Hp → Prop := fun σ H' => ∃ F' x' due found k3 k6 k7 k8 k9, σ = [some (.ref d), some (.ref x.p), some (.ref x.w), k3, some due, some found, k6, k7, k8, k9] ∧
  S21 K C d s ns Pd F' H' x' y ∧ x'.p = x.p ∧ x'.w = x.w ∧ Same F0 F' ∧ Fit d F' H' due found
theorem eqv_list_str (xs : List PyData) (z : Str) : PyData.eqv (.list xs) (.str z) = false := by rw [PyData.eqv]
theorem eqv_tup_str (xs : List PyData) (z : Str) : PyData.eqv (.tuple xs) (.str z) = false := by rw [PyData.eqv]
theorem twin_tups {H : Hp} {n : Nat} {a b : Addr} {xs : List V} (ha : H a = some (.tup xs)) (hb : H b = some (.tup xs)) (l : xs.length ≤ 100000) (h : ∀ x ∈ xs, sc0 x x) : Twin H (n + 2) (.ref a) (.ref b) :=
  .inr ⟨a, b, xs, xs, rfl, rfl, .inl ⟨ha, hb⟩, l, rfl, fun i x y hx hy => by
    rw [hx] at hy
    cases hy
    exact .inl (h x (List.mem_of_getElem? hx))⟩
theorem shaped_held : SeqAt.shaped (.str "held") = true := by decide +kernel
theorem shaped_old : SeqAt.shaped (.str "old") = true := by decide +kernel
theorem max1 (t : Int) : (if t > (1 : Int) then t else 1) = max 1 t := by
  by_cases z : t > (1 : Int)
  · rw [if_pos z]; omega
  · rw [if_neg z]; omega
theorem S21.spoil {K : PySem.W.Frag} {C d s : Addr} {ns : List Int} {P : Addr} {F H : Hp} {x y : Sd} {a : Addr} {vs ys : List V} (S : S21 K C d s ns P F H x y) (n : d ≠ a) (f : F a = none) (ha : H a = some (.lst vs)) : S21 K C d s ns P F (upd H a (.lst ys)) x y := by
  have B := S.b
  obtain ⟨_, ⟨_, kP⟩, ⟨_, _, kp⟩, ⟨_, kw⟩, ⟨_, kr⟩, ⟨_, _, k1⟩, ⟨_, k2⟩, ⟨_, k3⟩⟩ := B.kinds
  have X := (XM.refl (M := (· = a)) B.same).put (p := a) (o := .lst ys) (.inr rfl) f
  have ne : ∀ {c : Addr} {o : HO}, H c = some o → (∀ xs, o ≠ .lst xs) → ¬ c = a := fun {c o} h z e => by
    rw [e, ha] at h
    exact z _ (Option.some.inj h).symm
  refine ⟨S.dice.xm X n, TabS.xm S.tab X (ne kP fun _ z => by cases z) (fun c o hc _ e φ z => ?_), S.fP, S.sx.xm X (ne kp fun _ z => by cases z) (ne kw fun _ z => by cases z) (ne kr fun _ z => by cases z), S.sy.xm X (ne k1 fun _ z => by cases z) (ne k2 fun _ z => by cases z) (ne k3 fun _ z => by cases z), S.np, S.nw, S.nr⟩
  rw [show c = a from e, ha] at hc
  cases hc
  cases z
theorem shaped_bad (z : Int) : SeqAt.shaped (.tuple [.str "stretches", .int z]) = true := by
  have h : PyData.strOk "stretches" = true := by decide +kernel
  simp [SeqAt.shaped, PyData.canLay0, PyData.canLayAll0, PyData.depth, PyData.depthAll, h]
end Rw
namespace Rw
open PySem PySem.Spec PySem.Calls PyProof.Rows L2
/-! ### list(d.values()), the keys of d ints and texts -/
def vwI (p d : Addr) : HO := .ext fun h => h.get? p = some { cls := .type "dict_values", data := .fields #[.ref d] }
theorem vwI_ok {P : Program} {w : World} {H : Hp} {h : Heap} {p d : Addr} (e : h.get? p = some { cls := .type "dict_values", data := .fields #[.ref d] }) : ObjOk P w H h p (vwI p d) := ⟨e, ⟨_, e⟩, fun _ _ a k => k _ a⟩
def rValuesK : V → List V → Hp → VK → Prop := fun x xs H Q => ∃ d kvs, x = .ref d ∧ xs = [] ∧ H d = some (.dK kvs) ∧ ∀ p, H p = none → Q (.ref p) (upd H p (vwI p d))
theorem pairs_vals {P : Program} {w : World} : ∀ {es : List DictEntry} {kvs : List (Key × Value)}, Pairs (mixKind P w) es kvs → es.map (·.val) = kvs.map (·.2)
  | _, _, .nil => rfl
  | _, _, .cons _ h r => by rw [List.map_cons, List.map_cons, h, pairs_vals r]
theorem kv_vals : ∀ {kvs : List (Key × V)} {vs : List (Key × Value)}, KV kvs vs → Vals (kvs.map (·.2)) (vs.map (·.2))
  | _, _, .nil => .nil
  | _, _, .cons h r => .cons h.2 (kv_vals r)
section
variable {X : Cx}
theorem mt_valuesK : MtR X "dict.values" rValuesK := by
  intro pins s σ H x xs v us Q I rx rs h
  obtain ⟨d, kvs, rfl, rfl, hd, q⟩ := h
  cases rx
  cases rs
  obtain ⟨z, sm, vs, kv, o, es, ep, ho, hx, hdt, hk, hp, hn⟩ := dk_of I.hok hd
  refine call_meetsIn PySem.F.slot_dict_values ⟨o, ho, hx.1⟩ PySem.F.entry_dict_values (PySem.F.args_dict_values_1 _) (PySem.meets_dict_values_raw d sm) ⟨⟨es, ep, o, ho, hx, hdt⟩, ?_⟩
  exact ⟨.ref s.heap.objs.size, _, I.laid (t' := s.toks) (fun b o q => Heap.get?_push_of_some _ q) (Nat.le_refl _) (vwI_ok (Heap.get?_push_size _ rfl)), rfl, q _ (I.hok.fresh (Nat.le_refl _))⟩
def rListValsK : List V → Hp → VK → Prop := fun xs H Q => ∃ (p d : Addr) (kvs : List (Key × V)), xs = [.ref p] ∧ H p = some (vwI p d) ∧ H d = some (.dK kvs) ∧ ∀ q, H q = none → Q (.ref q) (upd H q (.lst (kvs.map (·.2))))
theorem cr_listValsK (hc : X.calm = true) : CallR X (.type "list") rListValsK := by
  intro pins s σ H xs us Q I r h
  obtain ⟨p, d, kvs, rfl, hp, hd, q⟩ := h
  obtain rfl := Vals.ref1 r
  obtain ⟨z, sm, vs, kv, o, es, ep, ho, hx, hdt, hk, hpr, hn⟩ := dk_of I.hok hd
  have hv := (show ObjOk X.prog X.w H s.heap p (vwI p d) from I.hok p _ hp).1
  have l1 : es.toList.length = vs.length := hpr.length
  have l2 : kvs.length = vs.length := Paired.length kv
  have l3 : es.size = vs.length := by rw [← l1, Array.length_toList]
  refine PySem.W.kdl_call (PySem.KdlSrc.rawValues (prog := X.prog) (w := X.w) (r := p) (d := d) (es := es) (ep := ep)) (I.ok.hd hc) ⟨⟨_, hv, rfl, rfl⟩, o, ho, hx, hdt⟩ (by omega) fun h' tk acc c hk hS it => ?_
  have ev : acc.toList = vs.map (·.2) := by
    rw [← pairs_vals hpr]
    apply List.ext_getElem?
    intro j
    rw [List.getElem?_map]
    have hl : acc.toList.length = es.size := by rw [Array.length_toList]; exact it.1
    cases hj : acc.toList[j]? with
    | none =>
      have h1 := List.getElem?_eq_none_iff.mp hj
      rw [List.getElem?_eq_none (by rw [Array.length_toList]; omega)]
      rfl
    | some v =>
      obtain ⟨hi, hval⟩ := it.2 j v (by rw [← Array.getElem?_toList]; exact hj)
      rw [Array.getElem?_toList, Array.getElem?_eq_getElem hi, hval]
      rfl
  have rv := kv_vals kv
  rw [← ev] at rv
  have few : (kvs.map (·.2)).length ≤ sizeLine := by rw [List.length_map]; exact z
  exact ⟨.ref s.heap.objs.size, _, I.laid (t' := tk) hk (Nat.le_refl _) (show ObjOk X.prog X.w _ h' _ (.lst (kvs.map (·.2))) from ⟨few, acc.toList, c, rv, hS⟩), rfl, q _ (I.hok.fresh (Nat.le_refl _))⟩
end
end Rw
namespace Rw
open PySem PySem.Spec PyProof.Rows L2
/-! ### dicts by seats -/
structure Ent where
  s : Int
  rs : List Row
  ps : List Pt
def DK (R : V → Ent → Prop) : List (Key × V) → List Ent → Prop := Paired fun kv e => kv.1 = (.inl e.s : Key) ∧ R kv.2 e
def putE (es : List Ent) (e : Ent) : List Ent := if (es.any fun x => decide (x.s = e.s)) = true then es.map (fun x => if x.s = e.s then e else x) else es ++ [e]
def valE (es : List Ent) (s : Int) : Option Ent := es.find? fun x => decide (x.s = s)
theorem pd_mono {α β : Type} {R S : α → β → Prop} (h : ∀ a b, R a b → S a b) : ∀ {xs : List α} {ys : List β}, Paired R xs ys → Paired S xs ys
  | _, _, .nil => .nil
  | _, _, .cons r t => .cons (h _ _ r) (pd_mono h t)
theorem pd_len {α β : Type} {R : α → β → Prop} : ∀ {xs : List α} {ys : List β}, Paired R xs ys → xs.length = ys.length
  | _, _, .nil => rfl
  | _, _, .cons _ t => by rw [List.length_cons, List.length_cons, pd_len t]
theorem pd_snoc {α β : Type} {R : α → β → Prop} {x : α} {y : β} (h : R x y) : ∀ {xs : List α} {ys : List β}, Paired R xs ys → Paired R (xs ++ [x]) (ys ++ [y])
  | _, _, .nil => .cons h .nil
  | _, _, .cons r t => .cons r (pd_snoc h t)
section
variable {R R' : V → Ent → Prop} {kvs : List (Key × V)} {es : List Ent}
theorem DK.mono (h : ∀ v e, R v e → R' v e) (d : DK R kvs es) : DK R' kvs es := pd_mono (fun _ _ z => ⟨z.1, h _ _ z.2⟩) d
theorem DK.len (d : DK R kvs es) : kvs.length = es.length := pd_len d
theorem DK.any (d : DK R kvs es) (s : Int) : (kvs.any fun kv => decide (kv.1 = (.inl s : Key))) = es.any fun x => decide (x.s = s) := by
  induction d with
  | nil => rfl
  | cons r t ih =>
    rw [List.any_cons, List.any_cons, ih, r.1]
    congr 1
    exact decide_eq_decide.mpr ⟨fun z => Sum.inl.inj z, fun z => by rw [z]⟩
theorem DK.put (d : DK R kvs es) {v : V} {e : Ent} (r : R v e) : DK R (putK kvs (.inl e.s : Key) v) (putE es e) := by
  unfold putK putE
  rw [d.any e.s]
  by_cases c : (es.any fun x => decide (x.s = e.s)) = true
  · rw [if_pos c, if_pos c]
    clear c
    induction d with
    | nil => exact .nil
    | @cons kv x _ _ r1 t ih =>
      rw [List.map_cons, List.map_cons]
      refine .cons ?_ ih
      by_cases h : x.s = e.s
      · rw [if_pos (by rw [r1.1, h]), if_pos h]
        exact ⟨by rw [r1.1, h], r⟩
      · rw [if_neg (fun z => h (Sum.inl.inj (r1.1.symm.trans z))), if_neg h]
        exact r1
  · rw [if_neg c, if_neg c]
    exact pd_snoc ⟨rfl, r⟩ d
theorem DK.get (d : DK R kvs es) (s : Int) : (valV kvs (.inl s : Key) = none ∧ valE es s = none) ∨ ∃ v e, valV kvs (.inl s : Key) = some v ∧ valE es s = some e ∧ R v e := by
  unfold valV valE
  induction d with
  | nil => exact .inl ⟨rfl, rfl⟩
  | @cons kv x _ _ r1 t ih =>
    by_cases h : x.s = s
    · rw [List.find?_cons_of_pos (by rw [r1.1, h]; exact decide_eq_true rfl), List.find?_cons_of_pos (p := fun x : Ent => decide (x.s = s)) (decide_eq_true h)]
      exact .inr ⟨_, _, rfl, rfl, r1.2⟩
    · rw [List.find?_cons_of_neg (by rw [r1.1]; simpa using h), List.find?_cons_of_neg (p := fun x : Ent => decide (x.s = s)) (by simpa using h)]
      exact ih
theorem DK.vals {α : Type} {k : Kd α} {F : Hp} {g : Ent → α} (d : DK (fun v e => k.is F v (g e)) kvs es) : Paired (k.is F) (kvs.map (·.2)) (es.map g) := by
  induction d with
  | nil => exact .nil
  | cons r t ih => exact .cons r.2 ih
end
abbrev RowR (F : Hp) : V → Ent → Prop := fun v e => (kL kRow).is F v e.rs
abbrev PtR (F : Hp) : V → Ent → Prop := fun v e => (kL kPt).is F v e.ps
/-! ### a lead -/
def lflds (many : Int) (aa ta : Addr) (bg : Bool) : List (Str × V) := [("_many", .int many), ("_answers", .ref aa), ("_told", .ref ta), ("_begun", .bl bg)]
structure LeadAt (C : Addr) (F H : Hp) (p aa ta : Addr) (many : Int) (an kp : List Ent) (bg : Bool) : Prop where
  ob : ∃ dx, H p = some (.ins C dx (lflds many aa ta bg))
  fp : F p = none
  ha : ∃ kvs, H aa = some (.dK kvs) ∧ DK (RowR F) kvs an
  fa : F aa = none
  ht : ∃ kvs, H ta = some (.dK kvs) ∧ DK (RowR F) kvs kp
  ft : F ta = none
  ne : aa ≠ ta
section
variable {C : Addr} {F H F' H' : Hp} {p aa ta : Addr} {many : Int} {an kp : List Ent} {bg : Bool} {M : Addr → Prop}
theorem LeadAt.xm (A : LeadAt C F H p aa ta many an kp bg) (X : XM M F H F' H') (h1 : ¬ M p) (h2 : ¬ M aa) (h3 : ¬ M ta) : LeadAt C F' H' p aa ta many an kp bg := by
  obtain ⟨dx, ob⟩ := A.ob
  obtain ⟨k1, a1, d1⟩ := A.ha
  obtain ⟨k2, a2, d2⟩ := A.ht
  exact ⟨⟨dx, X.hh _ _ ob h1⟩, by rw [X.nw _ _ ob fun xs z => by cases z]; exact A.fp, ⟨k1, X.hh _ _ a1 h2, d1.mono fun _ _ z => (kL kRow).mono X.ff z⟩, by rw [X.nw _ _ a1 fun xs z => by cases z]; exact A.fa, ⟨k2, X.hh _ _ a2 h3, d2.mono fun _ _ z => (kL kRow).mono X.ff z⟩, by rw [X.nw _ _ a2 fun xs z => by cases z]; exact A.ft, A.ne⟩
theorem LeadAt.ext (A : LeadAt C F H p aa ta many an kp bg) (X : Ext M0 F H F' H') : LeadAt C F' H' p aa ta many an kp bg := A.xm (.of X) id id id
theorem LeadAt.npa (A : LeadAt C F H p aa ta many an kp bg) : p ≠ aa := fun e => by
  obtain ⟨dx, ob⟩ := A.ob
  obtain ⟨k1, a1, d1⟩ := A.ha
  rw [e, a1] at ob; cases ob
theorem LeadAt.npt (A : LeadAt C F H p aa ta many an kp bg) : p ≠ ta := fun e => by
  obtain ⟨dx, ob⟩ := A.ob
  obtain ⟨k1, a1, d1⟩ := A.ht
  rw [e, a1] at ob; cases ob
end
structure TxQ (K : PySem.W.Frag) (mg : Str → Option Value) (C : Addr) : Prop where
  cl : Cls K C
  nM : NoAttr K C "_many"
  nA : NoAttr K C "_answers"
  nT : NoAttr K C "_told"
  nB : NoAttr K C "_begun"
  list : mg "list" = none
  len : mg "len" = none
section
variable (many : Int) (aa ta : Addr) (bg : Bool)
theorem ll_many : (lflds many aa ta bg).lookup ("_many" : Str) = some (.int many) := by kernel_rfl
theorem ll_ans : (lflds many aa ta bg).lookup ("_answers" : Str) = some (.ref aa) := by kernel_rfl
theorem ll_told : (lflds many aa ta bg).lookup ("_told" : Str) = some (.ref ta) := by kernel_rfl
theorem ll_begun : (lflds many aa ta bg).lookup ("_begun" : Str) = some (.bl bg) := by kernel_rfl
theorem ll_most : (lflds many aa ta bg).lookup ("_most" : Str) = none := by kernel_rfl
theorem ll_cb : (lflds many aa ta bg).lookup ("_check_begun" : Str) = none := by kernel_rfl
theorem ll_must : (lflds many aa ta bg).lookup ("must" : Str) = none := by kernel_rfl
theorem ll_heard : (lflds many aa ta bg).lookup ("heard" : Str) = none := by kernel_rfl
theorem ll_begin : (lflds many aa ta bg).lookup ("begin" : Str) = none := by kernel_rfl
theorem ll_kept : (lflds many aa ta bg).lookup ("kept" : Str) = none := by kernel_rfl
theorem ll_shown : (lflds many aa ta bg).lookup ("shown" : Str) = none := by kernel_rfl
theorem ll_leads : (lflds many aa ta bg).lookup ("leads" : Str) = none := by kernel_rfl
theorem lp_begun (b : Bool) : putF "_begun" (.bl b) (lflds many aa ta bg) = lflds many aa ta b := by kernel_rfl
theorem lf_len : (lflds many aa ta bg).length < 1000 := by show 4 < 1000; decide
theorem lf_init : putF "_begun" (.bl bg) (putF "_told" (.ref ta) (putF "_answers" (.ref aa) (putF "_many" (.int many) []))) = lflds many aa ta bg := by kernel_rfl
end
/-- what is kept is fit to be put together -/
def EOk (es : List Ent) : Prop := es.length ≤ 10 ∧ ∀ e ∈ es, Valid e.rs ∧ e.rs.length ≤ 5000
theorem eok_total {es : List Ent} (h : EOk es) : total (es.map (·.rs)) ≤ 50000 := by
  have key : ∀ es : List Ent, (∀ e ∈ es, Valid e.rs ∧ e.rs.length ≤ 5000) → total (es.map (·.rs)) ≤ 5000 * es.length := by
    intro es
    induction es with
    | nil => intro _; exact Nat.le_refl _
    | cons e es ih =>
      intro h
      have h1 := (h e List.mem_cons_self).2
      have h2 := ih fun x hx => h x (List.mem_cons_of_mem _ hx)
      show e.rs.length + total (es.map (·.rs)) ≤ 5000 * (es.length + 1)
      omega
  have := key es h.2
  have := h.1
  omega
/-! promises -/
def spCheckMany : Sp := fun vs H Q _ => ∃ n : Int, vs = [.int n] ∧ 2 ≤ n ∧ n ≤ 6 ∧ Q .non H
def spCheckOneX (K : PySem.W.Frag) : Sp := fun vs H Q E => ∃ m n : Int, vs = [.int m, .int n] ∧ (0 ≤ m ∧ m < n → Q .non H) ∧ (¬ (0 ≤ m ∧ m < n) → E (.ref (exC K 1)) none H)
def spQInit (C : Addr) : Sp := fun vs H Q _ => ∃ (F : Hp) (x dx : Addr) (n : Int), vs = [.ref x, .int n] ∧ 2 ≤ n ∧ n ≤ 6 ∧ Same F H ∧ H x = some (.ins C dx []) ∧ F x = none ∧ ∀ (F' H' : Hp) (aa ta : Addr), Ext (· = x) F H F' H' → H aa = none → H ta = none → aa ≠ ta → LeadAt C F' H' x aa ta n [] [] false → Q .non H'
def spMost (C : Addr) : Sp := fun vs H Q _ => ∃ (F : Hp) (p aa ta : Addr) (many : Int) (an kp : List Ent) (bg : Bool), vs = [.ref p] ∧ LeadAt C F H p aa ta many an kp bg ∧ 0 ≤ many ∧ Q (.int (many / 2 + 1)) H
def spCheckBegun (K : PySem.W.Frag) (C : Addr) : Sp := fun vs H Q E => ∃ (F : Hp) (p aa ta : Addr) (many : Int) (an kp : List Ent) (bg : Bool), vs = [.ref p] ∧ LeadAt C F H p aa ta many an kp bg ∧ (bg = true → Q .non H) ∧ (bg = false → E (.ref (exC K 6)) none H)
def spLeads (C : Addr) : Sp := fun vs H Q _ => ∃ (F : Hp) (p aa ta : Addr) (many : Int) (an kp : List Ent) (bg : Bool), vs = [.ref p] ∧ LeadAt C F H p aa ta many an kp bg ∧ Q (.bl bg) H
/-- a refusal of the i-th kind at a heap that only grew -/
def Late (K : PySem.W.Frag) (H : Hp) (i : Nat) (E : XK) : Prop := ∀ H', Same H H' → E (.ref (exC K i)) none H'
def spHeard (K : PySem.W.Frag) (C : Addr) : Sp := fun vs H Q E => ∃ (F : Hp) (p aa ta : Addr) (many : Int) (an kp : List Ent) (bg : Bool) (s : Int) (v : V), vs = [.ref p, .int s, v] ∧ Same F H ∧ LeadAt C F H p aa ta many an kp bg ∧ an.length ≤ 1000 ∧
  (¬ (0 ≤ s ∧ s < many) → E (.ref (exC K 1)) none H) ∧ (0 ≤ s ∧ s < many → ∃ (more : List Row) (ps : List Pt), (kL kRow).is F v more ∧ more.length ≤ 200 ∧ (∀ i, badAt more = some i → BadAt K H i E) ∧
    (badAt more = none → (bg = true → ∀ H', Same H H' → Q .non H') ∧ (bg = false → ∀ (F' H' : Hp) (rs : List Row), Ext (· = aa) F H F' H' → Fewest more rs → LeadAt C F' H' p aa ta many (putE an ⟨s, rs, ps⟩) kp bg → Q .non H')))
def spMust (K : PySem.W.Frag) (C : Addr) : Sp := fun vs H Q E => ∃ (F : Hp) (p aa ta : Addr) (many : Int) (an kp : List Ent) (bg : Bool), vs = [.ref p] ∧ Same F H ∧ LeadAt C F H p aa ta many an kp bg ∧ 0 ≤ many ∧ EOk an ∧
  ((an.length : Int) < many / 2 + 1 → E (.ref (exC K 6)) none H) ∧ (many / 2 + 1 ≤ (an.length : Int) → RetL M0 F H kRow (Held (an.map (·.rs)) 1) Q)
def spBegin (K : PySem.W.Frag) (C : Addr) : Sp := fun vs H Q E => ∃ (F : Hp) (p aa ta : Addr) (many : Int) (an kp : List Ent) (bg : Bool) (v : V) (more : List Row), vs = [.ref p, v] ∧ Same F H ∧ LeadAt C F H p aa ta many an kp bg ∧ 0 ≤ many ∧ EOk an ∧ (kL kRow).is F v more ∧ more.length ≤ 200 ∧
  (∀ i, badAt more = some i → BadAt K H i E) ∧ (badAt more = none → ((an.length : Int) < many / 2 + 1 → Late K H 6 E) ∧ (many / 2 + 1 ≤ (an.length : Int) → ((∃ q, 1 ≤ cnt (an.map (·.rs)) q ∧ ¬ mem more q) → Late K H 6 E) ∧
    ((∀ q, 1 ≤ cnt (an.map (·.rs)) q → mem more q) → ∀ (F' H' : Hp), Ext (· = p) F H F' H' → LeadAt C F' H' p aa ta many an kp true → Q .non H')))
def spLKept2 (K : PySem.W.Frag) (C : Addr) : Sp := fun vs H Q E => ∃ (F : Hp) (p aa ta : Addr) (many : Int) (an kp : List Ent) (bg : Bool) (s : Int) (v : V), vs = [.ref p, .int s, v] ∧ Same F H ∧ LeadAt C F H p aa ta many an kp bg ∧ EOk kp ∧
  (¬ (0 ≤ s ∧ s < many) → E (.ref (exC K 1)) none H) ∧ (0 ≤ s ∧ s < many → ∃ (more : List Row) (ps : List Pt), (kL kRow).is F v more ∧ more.length ≤ 200 ∧ (∀ i, badAt more = some i → BadAt K H i E) ∧
    (badAt more = none → (bg = false → Late K H 6 E) ∧ (bg = true → ∀ (F' H' : Hp) (rs : List Row), Ext (· = ta) F H F' H' → Fewest (((valE kp s).map (·.rs)).getD [] ++ more) rs → LeadAt C F' H' p aa ta many an (putE kp ⟨s, rs, ps⟩) bg → Q .non H')))
def spShown (K : PySem.W.Frag) (C : Addr) : Sp := fun vs H Q E => ∃ (F : Hp) (p aa ta : Addr) (many : Int) (an kp : List Ent) (bg : Bool), vs = [.ref p] ∧ Same F H ∧ LeadAt C F H p aa ta many an kp bg ∧ 0 ≤ many ∧ EOk kp ∧
  (bg = false → E (.ref (exC K 6)) none H) ∧ (bg = true → RetL M0 F H kRow (Held (kp.map (·.rs)) (many / 2 + 1)) Q)
section
variable {P : Program} {w : World} {K : PySem.W.Frag} {mg : Str → Option Value} {base : Heap} {C : Addr}
theorem ok_check_many {f : Addr} {fd : FuncData} (F0 : Fun K "check_many" "check_many" s_check_many f fd) (least : ∃ t, mg "LEAST_HOUSES" = some (.int 2 t)) (most : ∃ t, mg "MOST_HOUSES" = some (.int 6 t)) (CN : Cal P w K mg base 1 "is_number" ["value", "low", "high"] spIsNumber) :
    FnOk P w K mg base CX0 2 f fd ["many"] spCheckMany := by
  obtain ⟨f1, fd1, G1, g1, kp1, b1⟩ := CN
  obtain ⟨tl, hl⟩ := least
  obtain ⟨tm, hm⟩ := most
  refine F0.ok sc_check_many (fun vs H Q E h => ?_) (fun cdv A outer s H vs Q E hr h => ?_)
  · obtain ⟨n, rfl, _⟩ := h
    rfl
  · obtain ⟨n, rfl, n2, n6, q⟩ := h
    refine ⟨_, pss_one (ps_if (pt_not (pt_val (pe_call G1 hr (by rfl) g1 kp1 b1 .nil pass0 (pa_cons (pv 0) (pa_cons (pe_glob (v := .int 2) (by rfl) hl ⟨_, rfl⟩) (pa_cons (pe_glob (v := .int 6) (by rfl) hm ⟨_, rfl⟩) pa_nil)))))) (pss_one ps_never) pss_nil), ?_⟩
    refine ⟨_, rfl, n, 2, 6, rfl, ?_⟩
    rw [decide_eq_true ⟨n2, n6⟩]
    exact ⟨true, rfl, iteF q⟩
theorem ok_check_oneX {f : Addr} {fd : FuncData} (F0 : Fun K "check_one_of" "check_one_of" s_check_one_of f fd) (X1 : ExMk K mg 1) (CN : Cal P w K mg base 1 "is_number" ["value", "low", "high"] spIsNumber) : FnOk P w K mg base (L2.CX P w) 2 f fd ["which", "many"] (spCheckOneX K) := by
  obtain ⟨f1, fd1, G1, g1, kp1, b1⟩ := CN
  obtain ⟨x1, x2, x3, x4, x5⟩ := X1
  have x2' : mg "NoHouse" = some (.ref (exC K 1)) := x2
  refine F0.okX sc_check_one_of (fun vs H Q E h => ?_) (fun cdv A outer s H vs Q E hr h => ?_)
  · obtain ⟨m, n, rfl, _⟩ := h
    rfl
  · obtain ⟨m, n, rfl, q1, q2⟩ := h
    refine ⟨_, pss_one (ps_if (pt_not (pt_val (pe_call G1 hr (by rfl) g1 kp1 b1 .nil pass0 (pa_cons (pv 0) (pa_cons pe_int (pa_cons (pe_op op_sub (pv 1) pe_int) pa_nil)))))) (pss_one (ps_raise rfl (takes_of rfl rfl rfl rfl) (pmk_own PySem.F.excBase_ValueError x1 x2' x3 (raises_own x4 x5) (by rfl)))) pss_nil), ?_⟩
    refine ⟨_, rfl, _, rfl, _, _, rfl, rfl, m, 0, n - 1, rfl, _, rfl, ?_⟩
    by_cases c : 0 ≤ m ∧ m < n
    · rw [decide_eq_true (⟨c.1, by omega⟩ : 0 ≤ m ∧ m ≤ n - 1)]
      exact iteF (q1 c)
    · rw [decide_eq_false (fun z => c ⟨z.1, by omega⟩ : ¬ (0 ≤ m ∧ m ≤ n - 1))]
      exact iteT (q2 c)
theorem ok_Lead__most {f : Addr} {fd : FuncData} (F0 : Fun K "_most" "Lead._most" s_Lead__most f fd) (T : TxQ K mg C) : FnOk P w K mg base CX0 1 f fd ["self"] (spMost C) := by
  refine F0.ok sc_Lead__most (fun vs H Q E h => ?_) (fun cdv A outer s H vs Q E hr h => ?_)
  · obtain ⟨F, p, aa, ta, many, an, kp, bg, rfl, _⟩ := h
    rfl
  · obtain ⟨F, p, aa, ta, many, an, kp, bg, rfl, A, m0, q⟩ := h
    obtain ⟨dx, ob⟩ := A.ob
    refine ⟨_, pss_one (ps_ret (pe_op op_add (pe_op op_fdiv (pe_fld (pv 0) rfl) pe_int) pe_int)), ?_⟩
    refine ⟨_, rfl, p, C, dx, _, _, rfl, ob, T.cl, T.nM, ll_many _ _ _ _, _, _, rfl, rfl, ⟨by decide, by decide⟩, _, _, rfl, rfl, ?_⟩
    exact q
theorem ok_Lead__check_begun {f : Addr} {fd : FuncData} (F0 : Fun K "_check_begun" "Lead._check_begun" s_Lead__check_begun f fd) (T : TxQ K mg C) (X6 : ExMk K mg 6) : FnOk P w K mg base (L2.CX P w) 1 f fd ["self"] (spCheckBegun K C) := by
  obtain ⟨x1, x2, x3, x4, x5⟩ := X6
  have x2' : mg "NotYet" = some (.ref (exC K 6)) := x2
  refine F0.okX sc_Lead__check_begun (fun vs H Q E h => ?_) (fun cdv A outer s H vs Q E hr h => ?_)
  · obtain ⟨F, p, aa, ta, many, an, kp, bg, rfl, _⟩ := h
    rfl
  · obtain ⟨F, p, aa, ta, many, an, kp, bg, rfl, A, q1, q2⟩ := h
    obtain ⟨dx, ob⟩ := A.ob
    refine ⟨_, pss_one (ps_if (pt_not (pt_val (pe_fld (pv 0) rfl))) (pss_one (ps_raise rfl (takes_of rfl rfl rfl rfl) (pmk_own PySem.F.excBase_ValueError x1 x2' x3 (raises_own x4 x5) (by rfl)))) pss_nil), ?_⟩
    refine ⟨_, rfl, p, C, dx, _, _, rfl, ob, T.cl, T.nB, ll_begun _ _ _ _, bg, rfl, ?_⟩
    cases bg with
    | true => exact iteF (q1 rfl)
    | false => exact iteT (q2 rfl)
theorem ok_Lead_leads {f : Addr} {fd : FuncData} (F0 : Fun K "leads" "Lead.leads" s_Lead_leads f fd) (T : TxQ K mg C) : FnOk P w K mg base CX0 1 f fd ["self"] (spLeads C) := by
  refine F0.ok sc_Lead_leads (fun vs H Q E h => ?_) (fun cdv A outer s H vs Q E hr h => ?_)
  · obtain ⟨F, p, aa, ta, many, an, kp, bg, rfl, _⟩ := h
    rfl
  · obtain ⟨F, p, aa, ta, many, an, kp, bg, rfl, A, q⟩ := h
    obtain ⟨dx, ob⟩ := A.ob
    exact ⟨_, pss_one (ps_ret (pe_fld (pv 0) rfl)), _, rfl, p, C, dx, _, _, rfl, ob, T.cl, T.nB, ll_begun _ _ _ _, q⟩
end
end Rw
set_option maxHeartbeats 1000000
namespace Rw
open PySem PySem.Spec PyProof.Rows L2
section
variable {C : Addr} {F H : Hp} {p aa ta : Addr} {many : Int} {an kp : List Ent} {bg : Bool}
/-- the answers are put -/
theorem LeadAt.putA (A : LeadAt C F H p aa ta many an kp bg) (ne : aa ≠ ta) {kvs : List (Key × V)} {an' : List Ent} (d : DK (RowR F) kvs an') : LeadAt C F (upd H aa (.dK kvs)) p aa ta many an' kp bg := by
  obtain ⟨dx, ob⟩ := A.ob
  obtain ⟨k2, a2, d2⟩ := A.ht
  exact ⟨⟨dx, by rw [upd_ne A.npa]; exact ob⟩, A.fp, ⟨kvs, upd_same, d⟩, A.fa, ⟨k2, by rw [upd_ne ne.symm]; exact a2, d2⟩, A.ft, A.ne⟩
theorem LeadAt.putT (A : LeadAt C F H p aa ta many an kp bg) (ne : aa ≠ ta) {kvs : List (Key × V)} {kp' : List Ent} (d : DK (RowR F) kvs kp') : LeadAt C F (upd H ta (.dK kvs)) p aa ta many an kp' bg := by
  obtain ⟨dx, ob⟩ := A.ob
  obtain ⟨k1, a1, d1⟩ := A.ha
  exact ⟨⟨dx, by rw [upd_ne A.npt]; exact ob⟩, A.fp, ⟨k1, by rw [upd_ne ne]; exact a1, d1⟩, A.fa, ⟨kvs, upd_same, d⟩, A.ft, A.ne⟩
theorem LeadAt.putB (A : LeadAt C F H p aa ta many an kp bg) {dx : Addr} (b : Bool) : LeadAt C F (upd H p (.ins C dx (lflds many aa ta b))) p aa ta many an kp b := by
  obtain ⟨k1, a1, d1⟩ := A.ha
  obtain ⟨k2, a2, d2⟩ := A.ht
  exact ⟨⟨dx, upd_same⟩, A.fp, ⟨k1, by rw [upd_ne A.npa.symm]; exact a1, d1⟩, A.fa, ⟨k2, by rw [upd_ne A.npt.symm]; exact a2, d2⟩, A.ft, A.ne⟩
theorem LeadAt.fz {b : Addr} {vs : List V} (A : LeadAt C F H p aa ta many an kp bg) (f : F b = none) (hb : H b = some (.lst vs)) : LeadAt C (upd F b (.lst vs)) H p aa ta many an kp bg := by
  obtain ⟨dx, ob⟩ := A.ob
  obtain ⟨k1, a1, d1⟩ := A.ha
  obtain ⟨k2, a2, d2⟩ := A.ht
  have ne : ∀ {c : Addr} {o : HO}, H c = some o → (∀ xs, o ≠ .lst xs) → c ≠ b := fun {c o} h z e => by
    rw [e, hb] at h
    exact z _ (Option.some.inj h).symm
  exact ⟨⟨dx, ob⟩, by rw [upd_ne (ne ob fun _ z => by cases z)]; exact A.fp, ⟨k1, a1, d1.mono fun _ _ z => (kL kRow).mono (same_upd f) z⟩, by rw [upd_ne (ne a1 fun _ z => by cases z)]; exact A.fa,
    ⟨k2, a2, d2.mono fun _ _ z => (kL kRow).mono (same_upd f) z⟩, by rw [upd_ne (ne a2 fun _ z => by cases z)]; exact A.ft, A.ne⟩
end
theorem badAt_valid {rows : List Row} (h : badAt rows = none) : Valid rows := fun r hr => (badAt_none.mp h r hr).2.2.2.1
section
variable {P : Program} {w : World} {K : PySem.W.Frag} {mg : Str → Option Value} {base : Heap} {C : Addr}
theorem ok_Lead___init__ {f : Addr} {fd : FuncData} (F0 : Fun K "__init__" "Lead.__init__" s_Lead___init__ f fd) (T : TxQ K mg C) (CM : Cal P w K mg base 2 "check_many" ["many"] spCheckMany) : FnOk P w K mg base CX0 3 f fd ["self", "many"] (spQInit C) := by
  obtain ⟨f1, fd1, G1, g1, kp1, b1⟩ := CM
  refine F0.ok sc_Lead___init__ (fun vs H Q E h => ?_) (fun cdv A outer s H vs Q E hr h => ?_)
  · obtain ⟨F, x, dx, n, rfl, _⟩ := h
    rfl
  · obtain ⟨F, x, dx, n, rfl, n2, n6, fh, ob, fx, q⟩ := h
    refine ⟨_, pss_cons (ps_expr (pe_call G1 hr (by rfl) g1 kp1 b1 .nil pass0 (pa_cons (pv 1) pa_nil)))
      (pss_cons (ps_fld (pv 0) (pv 1) rfl) (pss_cons (ps_fld (pv 0) pe_dnewK rfl) (pss_cons (ps_fld (pv 0) pe_dnewK rfl) (pss_one (ps_fld (pv 0) pe_bl rfl))))), ?_⟩
    refine ⟨_, rfl, n, rfl, n2, n6, ?_⟩
    refine ⟨_, rfl, _, rfl, x, C, dx, _, rfl, ob, T.cl, T.nM, by show 0 < 1000; decide, ?_⟩
    intro aa na
    have xa : x ≠ aa := ne_of_none upd_same na
    have na0 : H aa = none := by rw [upd_ne xa.symm] at na; exact na
    refine ⟨_, rfl, x, C, dx, _, rfl, by rw [upd_ne xa]; exact upd_same, T.cl, T.nA, by show 1 < 1000; decide, ?_⟩
    intro ta nt
    have xt : x ≠ ta := ne_of_none upd_same nt
    have at' : aa ≠ ta := ne_of_none (show upd (upd (upd H x (.ins C dx (putF "_many" (.int n) []))) aa (.dK [])) x _ aa = some (.dK []) by rw [upd_ne xa.symm]; exact upd_same) nt
    have nt0 : H ta = none := by rw [upd_ne xt.symm, upd_ne at'.symm, upd_ne xt.symm] at nt; exact nt
    refine ⟨_, rfl, x, C, dx, _, rfl, by rw [upd_ne xt]; exact upd_same, T.cl, T.nT, by show 2 < 1000; decide, ?_⟩
    refine ⟨_, rfl, x, C, dx, _, rfl, upd_same, T.cl, T.nB, by show 3 < 1000; decide, ?_⟩
    rw [upd_upd]
    have fa := fh.free na0
    have ft := fh.free nt0
    have X : Ext (· = x) F H F (upd (upd (upd (upd (upd H x (.ins C dx (putF "_many" (.int n) []))) aa (.dK [])) x (.ins C dx (putF "_answers" (.ref aa) (putF "_many" (.int n) [])))) ta (.dK [])) x (.ins C dx (putF "_begun" (.bl false) (putF "_told" (.ref ta) (putF "_answers" (.ref aa) (putF "_many" (.int n) [])))))) :=
      (((((Ext.refl (M := (· = x)) fh).put (.inr rfl) fx).put (.inl na0) fa).put (.inr rfl) fx).put (.inl nt0) ft).put (.inr rfl) fx
    refine q F _ aa ta X na0 nt0 at' ⟨⟨dx, by rw [upd_same, lf_init]⟩, fx, ⟨[], ?_, .nil⟩, fa, ⟨[], ?_, .nil⟩, ft, at'⟩
    · rw [upd_ne xa.symm, upd_ne at', upd_ne xa.symm]; exact upd_same
    · rw [upd_ne xt.symm]; exact upd_same
theorem ok_Lead_heard {f : Addr} {fd : FuncData} (F0 : Fun K "heard" "Lead.heard" s_Lead_heard f fd) (T : TxQ K mg C) (CO : CalX P w K mg base 2 "check_one_of" ["which", "many"] (spCheckOneX K)) (CC : CalX P w K mg base 5 "check_rows" ["rows"] (spCheckRowsX K)) (CF : Cal P w K mg base 3 "fewest" ["rows"] spFewest) :
    FnOk P w K mg base (L2.CX P w) 6 f fd ["self", "seat", "rows"] (spHeard K C) := by
  obtain ⟨f1, fd1, G1, g1, kp1, b1⟩ := CC
  obtain ⟨f2, fd2, G2, g2, kp2, b2⟩ := CF
  obtain ⟨f3, fd3, G3, g3, kp3, b3⟩ := CO
  refine F0.okX sc_Lead_heard (fun vs H Q E h => ?_) (fun cdv A outer s H vs Q E hr h => ?_)
  · obtain ⟨F, p, aa, ta, many, an, kp, bg, s, v, rfl, _⟩ := h
    rfl
  · obtain ⟨F, p, aa, ta, many, an, kp, bg, s, v, rfl, fh, A, lan, q1, q2⟩ := h
    have hr2 : Room 2 _ := hr.mono (by decide)
    have hr3 : Room 3 _ := hr.mono (by decide)
    have hu := hu_of hr
    obtain ⟨dx, ob⟩ := A.ob
    refine ⟨_, pss_cons (ps_expr (pe_call G3 hr2 (by rfl) g3 kp3 b3 .nil (passes_call (E := E) (takes_of rfl rfl rfl rfl) fun _ _ _ _ h => h) (pa_cons (pv 1) (pa_cons (pe_fld (pv 0) rfl) pa_nil))))
      (pss_cons (ps_expr (pe_call G1 hr (by rfl) g1 kp1 b1 .nil (passes_call (E := E) (takes_of rfl rfl rfl rfl) fun _ _ _ _ h => h) (pa_cons (pv 2) pa_nil)))
      (pss_one (ps_if (pt_not (pt_val (pe_fld (pv 0) rfl))) (pss_one (ps_dput hu (pe_fld (pv 0) rfl) (pv 1) (pe_call G2 hr3 (by rfl) g2 kp2 b2 .nil pass0 (pa_cons (pv 2) pa_nil)) rfl)) pss_nil))), ?_⟩
    refine ⟨_, rfl, _, rfl, p, C, dx, _, _, rfl, ob, T.cl, T.nM, ll_many _ _ _ _, s, many, rfl, fun hs => ?_, fun hs => q1 hs⟩
    obtain ⟨more, ps, hv, hl, q3, q4⟩ := q2 hs
    refine ⟨_, rfl, v, more, rfl, (kL kRow).mono fh hv, hl, fun hb H1 s1 => ?_, fun i hi => q3 i hi⟩
    obtain ⟨q5, q6⟩ := q4 hb
    have X1 := Ext.ofSame fh s1
    have A1 := A.ext X1
    obtain ⟨dx1, ob1⟩ := A1.ob
    refine ⟨_, rfl, p, C, dx1, _, _, rfl, ob1, T.cl, T.nB, ll_begun _ _ _ _, bg, rfl, ?_⟩
    cases hbg : bg with
    | true =>
      exact iteF (q5 hbg H1 s1)
    | false =>
      refine iteT ⟨_, rfl, F, v, more, rfl, X1.fh, hv, badAt_valid hb, by omega, fun F2 H2 a vs rs X2 na fa ha hp fw => ?_⟩
      have X3 := (X1.trans X2).frz ((X1.free na)) fa ha
      have A3 := A1.ext ((X2).frz na fa ha)
      have ko : (kL kRow).is (upd F2 a (.lst vs)) (.ref a) rs := kL_new fa hp
      obtain ⟨dx3, ob3⟩ := A3.ob
      obtain ⟨kvs, ha3, dk⟩ := A3.ha
      have ne := A.ne
      refine ⟨_, rfl, p, C, dx3, _, _, rfl, ob3, T.cl, T.nA, ll_ans _ _ _ _, _, rfl, aa, _, rfl, DPut.k (k := (Sum.inl s : Key)) ha3 (by rw [dk.len, sizeLine_eq]; omega), ?_⟩
      have dk' := dk.put (e := ⟨s, rs, ps⟩) ko
      have A4 := A3.putA ne dk'
      subst hbg
      exact q6 rfl _ _ rs (X3.up.put (.inr rfl) A3.fa) fw A4
/-- list(self.d.values()), frozen -/
theorem ok_Lead_must {f : Addr} {fd : FuncData} (F0 : Fun K "must" "Lead.must" s_Lead_must f fd) (T : TxQ K mg C) (X6 : ExMk K mg 6) (CM : CalM P w K mg base C 1 "_most" ["self"] (spMost C)) (CH : Cal P w K mg base 4 "held_by_many" ["sets", "least"] spHeld) : FnOk P w K mg base (L2.CX P w) 5 f fd ["self"] (spMust K C) := by
  obtain ⟨f1, fd1, G1, m1, b1⟩ := CM
  obtain ⟨f2, fd2, G2, g2, kp2, b2⟩ := CH
  obtain ⟨x1, x2, x3, x4, x5⟩ := X6
  have x2' : mg "NotYet" = some (.ref (exC K 6)) := x2
  refine F0.okX sc_Lead_must (fun vs H Q E h => ?_) (fun cdv A outer s H vs Q E hr h => ?_)
  · obtain ⟨F, p, aa, ta, many, an, kp, bg, rfl, _⟩ := h
    rfl
  · obtain ⟨F, p, aa, ta, many, an, kp, bg, rfl, fh, A, m0, eo, q1, q2⟩ := h
    have hr1 : Room 1 _ := hr.mono (by decide)
    obtain ⟨dx, ob⟩ := A.ob
    obtain ⟨kvs, hk, dk⟩ := A.ha
    refine ⟨_, pss_cons (ps_if (pt_cmpR op_lt (pe_callB call_lenD (by rfl) T.len PySem.boot_len (pa_cons (pe_fld (pv 0) rfl) pa_nil)) (pe_meth0 (pv 0) T.cl m1 G1 hr1 b1 .nil pass0) (nomark _)) (pss_one (ps_raise rfl (takes_of rfl rfl rfl rfl) (pmk_own PySem.F.excBase_ValueError x1 x2' x3 (raises_own x4 x5) (by rfl)))) pss_nil)
      (pss_one (ps_ret (pe_call G2 hr (by rfl) g2 kp2 b2 .nil pass0 (pa_cons (pe_callTy (cr_listValsK (by rfl)) (by rfl) T.list (by decide +kernel) (pa_cons (pe_bm0 PySem.F.plainAttrs_dict PySem.F.slot_dict_values PySem.F.type_dict_values mt_valuesK (pe_fld (pv 0) rfl)) pa_nil)) (pa_cons pe_int pa_nil))))), ?_⟩
    refine ⟨_, rfl, p, C, dx, _, _, rfl, ob, T.cl, T.nA, ll_ans _ _ _ _, aa, kvs, rfl, hk, _, rfl, p, dx, _, rfl, ob, ll_most _ _ _ _, F, p, aa, ta, many, an, kp, bg, rfl, A, m0, _, _, rfl, rfl, _, rfl, ?_⟩
    rw [dk.len]
    refine iteL (fun c => q1 c) (fun c => ?_)
    refine ⟨_, rfl, p, C, dx, _, _, rfl, ob, T.cl, T.nA, ll_ans _ _ _ _, .inr (.inr (.inl ⟨rfl, .inl ⟨_, hk⟩⟩)), aa, kvs, rfl, rfl, hk, fun vw nvw => ?_⟩
    have X1 := (Ext.refl (M := M0) fh).tmp (o := vwI vw aa) nvw
    have hk1 : upd H vw (vwI vw aa) aa = some (.dK kvs) := by rw [upd_ne (ne_of_none hk nvw)]; exact hk
    refine ⟨vw, aa, kvs, rfl, upd_same, hk1, fun l nl => ?_⟩
    have X2 := X1.tmp (o := .lst (kvs.map (·.2))) nl
    have fl := X1.ffree nl
    have X3 := X2.frz (X1.free nl) fl upd_same
    refine ⟨_, .ref l, an.map (·.rs), 1, rfl, X3.fh, kL_new fl dk.vals, fun rs hrs => ?_, Nat.le_trans (eok_total eo) (by decide), by decide, RetL.step X3 (q2 (by omega)) fun _ z => z⟩
    obtain ⟨e, he, rfl⟩ := List.mem_map.mp hrs
    exact (eo.2 e he).1
theorem ok_Lead_begin {f : Addr} {fd : FuncData} (F0 : Fun K "begin" "Lead.begin" s_Lead_begin f fd) (T : TxQ K mg C) (X6 : ExMk K mg 6) (CC : CalX P w K mg base 5 "check_rows" ["rows"] (spCheckRowsX K)) (CM : CalMX P w K mg base C 5 "must" ["self"] (spMust K C)) (CW : Cal P w K mg base 4 "without" ["one", "other"] spWithout) :
    FnOk P w K mg base (L2.CX P w) 6 f fd ["self", "rows"] (spBegin K C) := by
  obtain ⟨f1, fd1, G1, g1, kp1, b1⟩ := CC
  obtain ⟨f2, fd2, G2, g2, kp2, b2⟩ := CW
  obtain ⟨f3, fd3, G3, m3, b3⟩ := CM
  obtain ⟨x1, x2, x3, x4, x5⟩ := X6
  have x2' : mg "NotYet" = some (.ref (exC K 6)) := x2
  refine F0.okX sc_Lead_begin (fun vs H Q E h => ?_) (fun cdv A outer s H vs Q E hr h => ?_)
  · obtain ⟨F, p, aa, ta, many, an, kp, bg, v, more, rfl, _⟩ := h
    rfl
  · obtain ⟨F, p, aa, ta, many, an, kp, bg, v, more, rfl, fh, A, m0, eo, hv, hl, q1, q2⟩ := h
    have hr4 : Room 4 _ := hr.mono (by decide)
    refine ⟨_, pss_cons (ps_expr (pe_call G1 hr (by rfl) g1 kp1 b1 .nil (passes_call (E := E) (takes_of rfl rfl rfl rfl) fun _ _ _ _ h => h) (pa_cons (pv 1) pa_nil)))
      (pss_cons (ps_if (pt_truth (pe_call G2 hr4 (by rfl) g2 kp2 b2 .nil pass0 (pa_cons (pe_meth0 (pv 0) T.cl m3 G3 hr b3 .nil (passes_call (E := E) (takes_of rfl rfl rfl rfl) fun _ _ _ _ h => h)) (pa_cons (pv 1) pa_nil))) (by intro _; rfl))
        (pss_one (ps_raise rfl (takes_of rfl rfl rfl rfl) (pmk_own PySem.F.excBase_ValueError x1 x2' x3 (raises_own x4 x5) (by rfl)))) pss_nil)
      (pss_one (ps_fld (pv 0) pe_bl rfl))), ?_⟩
    refine ⟨_, rfl, v, more, rfl, (kL kRow).mono fh hv, hl, fun hb H1 s1 => ?_, fun i hi => q1 i hi⟩
    obtain ⟨q3, q4⟩ := q2 hb
    have X1 := Ext.ofSame fh s1
    have A1 := A.ext X1
    obtain ⟨dx, ob⟩ := A1.ob
    refine ⟨_, rfl, p, dx, _, rfl, ob, ll_must _ _ _ _, F, p, aa, ta, many, an, kp, bg, rfl, X1.fh, A1, m0, eo, fun c => q3 c H1 s1, fun c => ?_⟩
    obtain ⟨q5, q6⟩ := q4 c
    intro F2 H2 a vs out X2 na fa ha hp hd
    have X3 := (X1.trans X2).frz (X1.free na) fa ha
    have A3 := A1.ext (X2.frz na fa ha)
    have ko : (kL kRow).is (upd F2 a (.lst vs)) (.ref a) out := kL_new fa hp
    have lo : out.length ≤ 50000 := Nat.le_trans hd.len (eok_total eo)
    refine ⟨_, rfl, _, .ref a, v, out, more, rfl, X3.fh, ko, (kL kRow).mono X3.ff hv, hd.can.ok, badAt_valid hb, lo, by omega, fun F4 H4 b us gap X4 nb fb hb4 hpg wo => ?_⟩
    have X5 := X3.trans X4
    have A5 := A3.ext X4
    refine ⟨_, .inl ⟨us, SqL.of hb4, rfl⟩, ?_⟩
    have lg := pr_len hpg
    by_cases e : us = []
    · subst e
      refine iteF ?_
      obtain ⟨dx5, ob5⟩ := A5.ob
      refine ⟨_, rfl, p, C, dx5, _, rfl, ob5, T.cl, T.nB, lf_len _ _ _ _, ?_⟩
      rw [lp_begun]
      refine q6 (fun q hq => ?_) F4 _ (X5.up.put (.inr rfl) A5.fp) (A5.putB true)
      have g0 : gap = [] := List.length_eq_zero_iff.mp (by rw [← lg]; rfl)
      rcases Classical.em (mem more q) with z | z
      · exact z
      · have z' := (wo.mem q).mpr ⟨(hd.mem q).mpr hq, z⟩
        rw [g0] at z'
        exact absurd z' mem_nil
    · have e' : us.isEmpty = false := by
        cases us with
        | nil => exact absurd rfl e
        | cons _ _ => rfl
      rw [e']
      refine iteT ?_
      have g0 : gap ≠ [] := fun z => e (List.length_eq_zero_iff.mp (by rw [lg, z]; rfl))
      obtain ⟨r, hr'⟩ := List.exists_mem_of_ne_nil gap g0
      have hm := (wo.mem (r.1, r.2.1)).mp (wo.can.first hr')
      exact q5 ⟨_, (hd.mem _).mp hm.1, hm.2⟩ H4 (s1.trans (X2.same.trans X4.same))
theorem ok_Lead_kept {f : Addr} {fd : FuncData} (F0 : Fun K "kept" "Lead.kept" s_Lead_kept f fd) (T : TxQ K mg C) (CO : CalX P w K mg base 2 "check_one_of" ["which", "many"] (spCheckOneX K)) (CC : CalX P w K mg base 5 "check_rows" ["rows"] (spCheckRowsX K)) (CF : Cal P w K mg base 3 "fewest" ["rows"] spFewest)
    (CB : CalMX P w K mg base C 1 "_check_begun" ["self"] (spCheckBegun K C)) : FnOk P w K mg base (L2.CX P w) 6 f fd ["self", "seat", "rows"] (spLKept2 K C) := by
  obtain ⟨f1, fd1, G1, g1, kp1, b1⟩ := CC
  obtain ⟨f2, fd2, G2, g2, kp2, b2⟩ := CF
  obtain ⟨f3, fd3, G3, g3, kp3, b3⟩ := CO
  obtain ⟨f4, fd4, G4, m4, b4⟩ := CB
  refine F0.okX sc_Lead_kept (fun vs H Q E h => ?_) (fun cdv A outer s H vs Q E hr h => ?_)
  · obtain ⟨F, p, aa, ta, many, an, kp, bg, s, v, rfl, _⟩ := h
    rfl
  · obtain ⟨F, p, aa, ta, many, an, kp, bg, s, v, rfl, fh, A, eo, q1, q2⟩ := h
    have hr1 : Room 1 _ := hr.mono (by decide)
    have hr2 : Room 2 _ := hr.mono (by decide)
    have hr3 : Room 3 _ := hr.mono (by decide)
    have hu := hu_of hr
    obtain ⟨dx, ob⟩ := A.ob
    refine ⟨_, pss_cons (ps_expr (pe_call G3 hr2 (by rfl) g3 kp3 b3 .nil (passes_call (E := E) (takes_of rfl rfl rfl rfl) fun _ _ _ _ h => h) (pa_cons (pv 1) (pa_cons (pe_fld (pv 0) rfl) pa_nil))))
      (pss_cons (ps_expr (pe_call G1 hr (by rfl) g1 kp1 b1 .nil (passes_call (E := E) (takes_of rfl rfl rfl rfl) fun _ _ _ _ h => h) (pa_cons (pv 2) pa_nil)))
      (pss_cons (ps_expr (pe_meth0 (pv 0) T.cl m4 G4 hr1 b4 .nil (passes_call (E := E) (takes_of rfl rfl rfl rfl) fun _ _ _ _ h => h)))
      (pss_one (ps_dput hu (pe_fld (pv 0) rfl) (pv 1) (pe_call G2 hr3 (by rfl) g2 kp2 b2 .nil pass0 (pa_cons (pe_op op_cat (pe_dget2 hu (pe_fld (pv 0) rfl) (pv 1) (pe_lst pa_nil) ⟨rfl, rfl, rfl, rfl⟩) (pv 2)) pa_nil)) rfl)))), ?_⟩
    refine ⟨_, rfl, _, rfl, p, C, dx, _, _, rfl, ob, T.cl, T.nM, ll_many _ _ _ _, s, many, rfl, fun hs => ?_, fun hs => q1 hs⟩
    obtain ⟨more, ps, hv, hl, q3, q4⟩ := q2 hs
    refine ⟨_, rfl, v, more, rfl, (kL kRow).mono fh hv, hl, fun hb H1 s1 => ?_, fun i hi => q3 i hi⟩
    obtain ⟨q5, q6⟩ := q4 hb
    have X1 := Ext.ofSame fh s1
    have A1 := A.ext X1
    obtain ⟨dx1, ob1⟩ := A1.ob
    refine ⟨_, rfl, p, dx1, _, rfl, ob1, ll_cb _ _ _ _, F, p, aa, ta, many, an, kp, bg, rfl, A1, fun hbg => ?_, fun hbg => q5 hbg H1 s1⟩
    obtain ⟨kvs, hk, dk⟩ := A1.ht
    obtain ⟨va, ys, ev, hva, hvp⟩ := id hv
    subst ev
    refine ⟨_, rfl, p, C, dx1, _, _, rfl, ob1, T.cl, T.nT, ll_told _ _ _ _, ta, rfl, .inl ⟨kvs, .inl hk⟩, _, rfl, by show 0 ≤ sizeLine; decide, fun l nl => ?_⟩
    have X2 := X1.lay (o := .lst []) nl
    have A2 := A1.ext ((Ext.refl X1.fh).lay (o := .lst []) nl)
    have kl : (kL kRow).is (upd F l (.lst [])) (.ref l) [] := ⟨l, [], rfl, upd_same, .nil⟩
    have hk2 : upd H1 l (.lst []) ta = some (.dK kvs) := by rw [upd_ne (ne_of_none hk nl)]; exact hk
    have hv2 : (kL kRow).is (upd F l (.lst [])) (.ref va) more := (kL kRow).mono X2.ff hv
    have dk2 : DK (RowR (upd F l (.lst []))) kvs kp := dk.mono fun _ _ z => (kL kRow).mono X2.ff z
    revert X2 A2 kl hk2 hv2 dk2
    generalize upd F l (.lst []) = F2
    generalize upd H1 l (.lst []) = H2
    intro X2 A2 kl hk2 hv2 dk2
    obtain ⟨ao, old, ho, hoV⟩ : ∃ (ao : Addr) (old : List Row), (((valV kvs (.inl s : Key)).getD (.ref l)) = .ref ao ∧ (kL kRow).is F2 (.ref ao) old) ∧ old = ((valE kp s).map (·.rs)).getD [] ∧ Valid old ∧ old.length ≤ 5000 := by
      rcases dk2.get s with ⟨e1, e2⟩ | ⟨v', e, e1, e2, r⟩
      · exact ⟨l, [], ⟨by rw [e1]; rfl, kl⟩, by rw [e2]; rfl, fun r hr => absurd hr (by simp), by decide⟩
      · obtain ⟨a', xs', rfl, h1, h2⟩ := id r
        have he := List.mem_of_find?_eq_some e2
        exact ⟨a', e.rs, ⟨by rw [e1]; rfl, r⟩, by rw [e2]; rfl, eo.2 e he⟩
    obtain ⟨hval, hlen⟩ := hoV.2
    obtain ⟨ao', zs, e0, hz, pz⟩ := id ho.2
    cases e0
    obtain ⟨va', ys', e1, hva2, hvp2⟩ := id hv2
    cases e1
    have lz := pr_len pz
    have ly := pr_len hvp2
    refine ⟨valV kvs (.inl s : Key), DGet.k (k := (Sum.inl s : Key)) hk2, ?_⟩
    rw [ho.1]
    refine ⟨_, rfl, ao, va, zs, ys', rfl, rfl, X2.fh _ _ hz, X2.fh _ _ hva2, by rw [sizeLine_eq]; omega, fun c nc => ?_⟩
    have X3 := X2.lay (o := .lst (zs ++ ys')) nc
    have kc : (kL kRow).is (upd F2 c (.lst (zs ++ ys'))) (.ref c) (old ++ more) := kL_new (X2.ffree nc) (pr_append pz hvp2)
    have A3 := A2.ext ((Ext.refl X2.fh).lay (o := .lst (zs ++ ys')) nc)
    have vall : Valid (old ++ more) := fun r hr' => by
      rcases List.mem_append.mp hr' with z | z
      · exact hval r z
      · exact badAt_valid hb r z
    refine ⟨_, .ref c, old ++ more, rfl, X3.fh, kc, vall, by rw [List.length_append]; omega, fun F4 H4 a vs rs X4 na fa ha hp fw => ?_⟩
    have X5 := (X3.trans X4).frz (X3.free na) fa ha
    have A5 := A3.ext (X4.frz na fa ha)
    have ko : (kL kRow).is (upd F4 a (.lst vs)) (.ref a) rs := kL_new fa hp
    obtain ⟨dx5, ob5⟩ := A5.ob
    obtain ⟨kvs5, hk5, dk5⟩ := A5.ht
    have leo := eo.1
    refine ⟨_, rfl, p, C, dx5, _, _, rfl, ob5, T.cl, T.nT, ll_told _ _ _ _, _, rfl, ta, _, rfl, DPut.k (k := (Sum.inl s : Key)) hk5 (by rw [dk5.len, sizeLine_eq]; omega), ?_⟩
    have A6 := A5.putT A5.ne (dk5.put (e := ⟨s, rs, ps⟩) ko)
    exact q6 hbg _ _ rs (X5.up.put (.inr rfl) A5.ft) (by rw [← hoV.1]; exact fw) A6
theorem ok_Lead_shown {f : Addr} {fd : FuncData} (F0 : Fun K "shown" "Lead.shown" s_Lead_shown f fd) (T : TxQ K mg C) (CM : CalM P w K mg base C 1 "_most" ["self"] (spMost C)) (CH : Cal P w K mg base 4 "held_by_many" ["sets", "least"] spHeld) (CB : CalMX P w K mg base C 1 "_check_begun" ["self"] (spCheckBegun K C)) :
    FnOk P w K mg base (L2.CX P w) 5 f fd ["self"] (spShown K C) := by
  obtain ⟨f1, fd1, G1, m1, b1⟩ := CM
  obtain ⟨f2, fd2, G2, g2, kp2, b2⟩ := CH
  obtain ⟨f4, fd4, G4, m4, b4⟩ := CB
  refine F0.okX sc_Lead_shown (fun vs H Q E h => ?_) (fun cdv A outer s H vs Q E hr h => ?_)
  · obtain ⟨F, p, aa, ta, many, an, kp, bg, rfl, _⟩ := h
    rfl
  · obtain ⟨F, p, aa, ta, many, an, kp, bg, rfl, fh, A, m0, eo, q1, q2⟩ := h
    have hr1 : Room 1 _ := hr.mono (by decide)
    obtain ⟨dx, ob⟩ := A.ob
    obtain ⟨kvs, hk, dk⟩ := A.ht
    refine ⟨_, pss_cons (ps_expr (pe_meth0 (pv 0) T.cl m4 G4 hr1 b4 .nil (passes_call (E := E) (takes_of rfl rfl rfl rfl) fun _ _ _ _ h => h)))
      (pss_one (ps_ret (pe_call G2 hr (by rfl) g2 kp2 b2 .nil pass0 (pa_cons (pe_callTy (cr_listValsK (by rfl)) (by rfl) T.list (by decide +kernel) (pa_cons (pe_bm0 PySem.F.plainAttrs_dict PySem.F.slot_dict_values PySem.F.type_dict_values mt_valuesK (pe_fld (pv 0) rfl)) pa_nil)) (pa_cons (pe_meth0 (pv 0) T.cl m1 G1 hr1 b1 .nil pass0) pa_nil))))), ?_⟩
    refine ⟨_, rfl, p, dx, _, rfl, ob, ll_cb _ _ _ _, F, p, aa, ta, many, an, kp, bg, rfl, A, fun hbg => ?_, fun hbg => q1 hbg⟩
    refine ⟨_, rfl, p, C, dx, _, _, rfl, ob, T.cl, T.nT, ll_told _ _ _ _, .inr (.inr (.inl ⟨rfl, .inl ⟨_, hk⟩⟩)), ta, kvs, rfl, rfl, hk, fun vw nvw => ?_⟩
    have X1 := (Ext.refl (M := M0) fh).tmp (o := vwI vw ta) nvw
    have hk1 : upd H vw (vwI vw ta) ta = some (.dK kvs) := by rw [upd_ne (ne_of_none hk nvw)]; exact hk
    refine ⟨vw, ta, kvs, rfl, upd_same, hk1, fun l nl => ?_⟩
    have X2 := X1.tmp (o := .lst (kvs.map (·.2))) nl
    have fl := X1.ffree nl
    have X3 := X2.frz (X1.free nl) fl upd_same
    have A3 := A.ext X3
    obtain ⟨dx3, ob3⟩ := A3.ob
    refine ⟨_, rfl, p, dx3, _, rfl, ob3, ll_most _ _ _ _, _, p, aa, ta, many, an, kp, bg, rfl, A3, m0, ?_⟩
    refine ⟨_, .ref l, kp.map (·.rs), many / 2 + 1, rfl, X3.fh, kL_new fl dk.vals, fun rs hrs => ?_, Nat.le_trans (eok_total eo) (by decide), by omega, RetL.step X3 (q2 hbg) fun _ z => z⟩
    obtain ⟨e, he, rfl⟩ := List.mem_map.mp hrs
    exact (eo.2 e he).1
end
end Rw
namespace Rw
open PySem PySem.Spec PyProof.Rows L2
/-! ### sets of pairs, up to what a table of 128 places bears -/
/-- the hash of a pair, by itself -/
def pairHash (x y : Int) : Int := reduceHash (Builtin.Tuple.tupleHashOf [hashInt x, hashInt y])
theorem pairHash_is (P : Program) (w : World) (x y : Int) : thash P w [x, y] = pairHash x y := rfl
def field : List (Int × Int) := (List.range 3).flatMap fun x : Nat => (List.range 25).map fun y : Nat => ((x : Int), (y : Int) + 1)
def noTwin : List Int → Bool
  | [] => true
  | x :: xs => !(xs.any fun y => decide (x = y)) && noTwin xs
theorem field_apart : noTwin (field.map fun p => pairHash p.1 p.2) = true := by decide +kernel
theorem noTwin_nd : ∀ {xs : List Int}, noTwin xs = true → xs.Nodup
  | [], _ => .nil
  | x :: xs, h => by
    unfold noTwin at h
    rw [Bool.and_eq_true, Bool.not_eq_true'] at h
    refine List.nodup_cons.mpr ⟨fun m => ?_, noTwin_nd h.2⟩
    have := List.any_eq_false.mp h.1 x m
    simp at this
theorem field_mem {x y : Int} (h0 : 0 ≤ x) (h3 : x < 3) (h1 : 1 ≤ y) (h25 : y ≤ 25) : (x, y) ∈ field := by
  refine List.mem_flatMap.mpr ⟨x.toNat, List.mem_range.mpr (by omega), List.mem_map.mpr ⟨(y - 1).toNat, List.mem_range.mpr (by omega), ?_⟩⟩
  exact Prod.ext (by simp only; omega) (by simp only; omega)
/-- the pairs that are spoken of -/
def InField (k : List Int) : Prop := ∃ x y : Int, k = [x, y] ∧ 0 ≤ x ∧ x < 3 ∧ 1 ≤ y ∧ y ≤ 25
theorem nodup_inj {α β : Type} {f : α → β} : ∀ {l : List α}, (l.map f).Nodup → ∀ {a b : α}, a ∈ l → b ∈ l → f a = f b → a = b
  | [], _, _, _, h, _, _ => absurd h (by simp)
  | c :: l, nd, a, b, ha, hb, e => by
    rw [List.map_cons] at nd
    obtain ⟨n1, n2⟩ := List.nodup_cons.mp nd
    rcases List.mem_cons.mp ha with ea | ha2 <;> rcases List.mem_cons.mp hb with eb | hb2
    · rw [ea, eb]
    · exact absurd (List.mem_map.mpr ⟨b, hb2, by rw [← e, ea]⟩) n1
    · exact absurd (List.mem_map.mpr ⟨a, ha2, by rw [e, eb]⟩) n1
    · exact nodup_inj n2 ha2 hb2 e
theorem field_inj (P : Program) (w : World) {k k' : List Int} (h : InField k) (h' : InField k') (e : thash P w k = thash P w k') : k = k' := by
  obtain ⟨x, y, rfl, a1, a2, a3, a4⟩ := h
  obtain ⟨x', y', rfl, b1, b2, b3, b4⟩ := h'
  rw [pairHash_is, pairHash_is] at e
  have z := nodup_inj (noTwin_nd field_apart) (field_mem a1 a2 a3 a4) (field_mem b1 b2 b3 b4) e
  rw [(Prod.mk.inj z).1, (Prod.mk.inj z).2]
/-- a tracked set of pairs of the field -/
structure Big (P : Program) (w : World) (h : Heap) (a : Addr) (L : List (Addr × List Int)) (es : Array (Int × Value)) (ep : Nat) (t : SetTable) : Prop where
  obj : ∃ o, h.get? a = some o ∧ o.ExactSet ∧ o.data = .set es ep t
  ent : es.toList = rowsOf P w L
  lay : TabOk t (L.map fun p => thash P w p.2)
  apart : (L.map (·.2)).Nodup
  elt : ∀ p ∈ L, IsT P w h p.2 p.1
  pl : t.plain = true
  ld : w.params.followText "set-order" = true ∨ t.led = true
  free : L.length * 5 < t.mask * 3
  fld : ∀ p ∈ L, InField p.2
section
variable {P : Program} {w : World} {A : Around} {E : Value → Shared → Prop} {s : Shared} {a : Addr} {L : List (Addr × List Int)} {es : Array (Int × Value)} {ep : Nat} {t : SetTable}
theorem Big.small (B : Big P w s.heap a L es ep t) (h : L.length < 64) : SetTR P w s.heap a L es ep t := ⟨B.obj, B.ent, B.lay, B.apart, B.elt, B.pl, B.ld, B.free, h⟩
theorem Big.of {h : Heap} (R : SetTR P w h a L es ep t) (f : ∀ p ∈ L, InField p.2) : Big P w h a L es ep t := ⟨R.ob, R.rows, R.tab, R.nd, R.tup, R.plain, R.led, R.room, f⟩
theorem Big.most {h : Heap} (B : Big P w h a L es ep t) : t.mask ≤ 127 ∧ L.length ≤ 76 := by
  have r := B.free
  rcases B.lay.mok with e | e | e <;> omega
theorem Big.size {h : Heap} (B : Big P w h a L es ep t) : es.size = L.length := by
  rw [← Array.length_toList, B.ent, rowsOf, List.length_map]
theorem Big.fits {h : Heap} (B : Big P w h a L es ep t) : t.fits es.size = true := by
  have e1 : t.place.size = L.length := by rw [B.lay.sz, List.length_map]
  have e2 := B.size
  have r := B.free
  simp only [SetTable.fits, SetTable.fill, B.lay.dm, Bool.and_eq_true, beq_iff_eq, decide_eq_true_eq]
  have z : (#[] : Array Nat).size = 0 := rfl
  omega
theorem Big.at {h : Heap} (B : Big P w h a L es ep t) {i : Nat} {p : Addr × List Int} (e : L[i]? = some p) : es[i]? = some (thash P w p.2, .ref p.1) := by
  have z : es.toList[i]? = some (thash P w p.2, .ref p.1) := by rw [B.ent, rowsOf, List.getElem?_map, e]; rfl
  rw [← z, Array.getElem?_toList]
theorem Big.stays {h : Heap} (B : Big P w h a L es ep t) : ¬ t.gaveWay = true := by
  have o := mask_odd B.lay.mok
  simp [SetTable.gaveWay, o]
/-- the search: equal hashes are equal pairs, so one look is all -/
theorem Big.search (B : Big P w s.heap a L es ep t) {x : Addr} {k : List Int} (hx : IsT P w s.heap k x) (hk : InField k) (hu : A.units < cLine) {Q : SetFound → Shared → Prop}
    (yes : k ∈ L.map (·.2) → Q (.there none) s)
    (no : ∀ K, k ∉ L.map (·.2) → way t.mask (thash P w k) K ∉ t.place.toList → (∀ c, c < K → way t.mask (thash P w k) c ∈ t.place.toList) → Q (.free (way t.mask (thash P w k) K) false) s) :
    wpAny (model P w) A (setSearch a (.ref x) (thash P w k) true) Q E s := by
  obtain ⟨o, ho, _, hd⟩ := B.obj
  have r := B.free
  obtain ⟨K, k1, k2, k3⟩ := B.lay.first (h := thash P w k) (by rw [List.length_map]; omega)
  have len : t.place.toList.length = L.length := by rw [Array.length_toList, B.lay.sz, List.length_map]
  have key : ∀ {i : Nat} {p : Addr × List Int}, L[i]? = some p → (es[i]?.map (·.1)).getD 0 = thash P w p.2 := fun e => by rw [B.at e]; rfl
  have same : ∀ {i : Nat} {p : Addr × List Int}, L[i]? = some p → (es[i]?.map (·.1)).getD 0 = thash P w k → p.2 = k := fun e h =>
    field_inj P w (B.fld _ (List.mem_of_getElem? e)) hk ((key e).symm.trans h)
  have go := go_spec t B.lay.ris B.lay.dm (fun i => (es[i]?.map (·.1)).getD 0) (thash P w k) (10 * SetTable.turns t.mask) K (runAt t.mask (SetTable.bits (thash P w k) % (t.mask + 1)) (SetTable.bits (thash P w k))) rfl k1 k3 k2
  have met : t.probe (fun i => (es[i]?.map (·.1)).getD 0) (thash P w k) ((none : Option SetTable.Probe).getD (t.probeStart (thash P w k))) = SetTable.probe.go t (fun i => (es[i]?.map (·.1)).getD 0) (thash P w k) (10 * SetTable.turns t.mask) (runAt t.mask (SetTable.bits (thash P w k) % (t.mask + 1)) (SetTable.bits (thash P w k))) := rfl
  rw [setSearch, show (100000 : Nat) = 99999 + 1 from rfl, setSearchFrom_succ]
  refine wpAny_bind (wpAny_setState_of ho hd B.fits ?_)
  dsimp only
  refine wp_if_neg B.stays ?_
  try refine wpAny_bind (wpAny_pure ?_)
  rw [met]
  rcases go with ⟨q, i, _, q2, q3, _, q5⟩ | ⟨n1, n2⟩
  · have hi : i < L.length := by rw [← len]; exact (List.getElem?_eq_some_iff.mp q2).1
    obtain ⟨p, hp⟩ : ∃ p, L[i]? = some p := ⟨_, List.getElem?_eq_getElem hi⟩
    have e := same hp q3
    have hm := List.mem_of_getElem? hp
    rw [q5]
    dsimp only
    have found : wpAny (model P w) A (searchRest a (.ref x) (thash P w k) true 99999 es t (nth t.mask (runAt t.mask (SetTable.bits (thash P w k) % (t.mask + 1)) (SetTable.bits (thash P w k))) q).j i (nth t.mask (runAt t.mask (SetTable.bits (thash P w k) % (t.mask + 1)) (SetTable.bits (thash P w k))) (q + 1))) Q E s := by
      rw [searchRest, B.at hp]
      dsimp only
      refine wpAny_bind (wpAny_holding (wpAny_eqBool_tuple hu (B.elt p hm) hx (wpAny_bind (wpAny_setState_of ho hd B.fits ?_))))
      dsimp only
      exact wp_if_pos (by simp [e]) (wpAny_pure (yes (List.mem_map.mpr ⟨p, hm, e⟩)))
    cases hl : t.led with
    | true => exact wp_if_neg (by simp) found
    | false =>
      refine wp_if_pos (by simp) (wpAny_bind (seen_tup hx (fun y hy => ?_) (wp_if_neg (by decide) found)))
      obtain ⟨u, hu1, hu2⟩ := List.mem_map.mp hy
      have hu3 : u ∈ es.toList := by
        have := (Array.mem_filter.mp (Array.mem_toList_iff.mp hu1)).1
        exact Array.mem_toList_iff.mpr this
      rw [B.ent] at hu3
      obtain ⟨p2, hp2, e2⟩ := List.mem_map.mp hu3
      exact ⟨p2.2, p2.1, by rw [← hu2, ← e2], B.elt p2 hp2⟩
  · rw [n2]
    dsimp only
    refine wpAny_pure (no K (fun m => ?_) k2 k3)
    obtain ⟨p, hp, e⟩ := List.mem_map.mp m
    obtain ⟨i, hi, e0⟩ := List.getElem_of_mem hp
    have hp' : L[i]? = some p := by rw [List.getElem?_eq_getElem hi, e0]
    obtain ⟨j, hj⟩ : ∃ j, t.place.toList[i]? = some j := ⟨_, List.getElem?_eq_getElem (by rw [len]; exact hi)⟩
    obtain ⟨c, c1, c2⟩ := B.lay.before k2 (h := thash P w k) (i := i) (by rw [List.getElem?_map, hp', ← e]; rfl) hj
    exact n1 c i c1 (by rw [hj, ← c2]) (by rw [key hp', e])
end
end Rw
namespace Rw
open PySem PySem.Spec PyProof.Rows L2
theorem field_len : field.length = 75 := by decide +kernel
theorem len_of_nodup : ∀ (l D : List (Int × Int)), l.Nodup → (∀ x ∈ l, x ∈ D) → l.length ≤ D.length := fun l D n h => nodup_sub l D n h
/-- distinct pairs of the field are few -/
theorem infield_few {ks : List (List Int)} (nd : ks.Nodup) (h : ∀ k ∈ ks, InField k) : ks.length ≤ 75 := by
  have z : ((ks.map fun k => (k.getD 0 0, k.getD 1 0)) : List (Int × Int)).Nodup := by
    refine List.pairwise_map.mpr (List.Pairwise.imp_of_mem (fun {a b} ha hb ne e => ne ?_) nd)
    obtain ⟨x, y, rfl, _⟩ := h a ha
    obtain ⟨x', y', rfl, _⟩ := h b hb
    have e1 : x = x' := congrArg Prod.fst e
    have e2 : y = y' := congrArg Prod.snd e
    rw [e1, e2]
  have c := len_of_nodup _ field z fun p hp => by
    obtain ⟨k, hk, rfl⟩ := List.mem_map.mp hp
    obtain ⟨x, y, rfl, a1, a2, a3, a4⟩ := h k hk
    exact field_mem a1 a2 a3 a4
  rw [List.length_map, field_len] at c
  exact c
section
variable {P : Program} {w : World} {A : Around} {E : Value → Shared → Prop} {s : Shared} {a : Addr} {L : List (Addr × List Int)} {es : Array (Int × Value)} {ep : Nat} {t : SetTable}
/-- one pair more -/
theorem Big.add (B : Big P w s.heap a L es ep t) {x : Addr} {k : List Int} (hx : IsT P w s.heap k x) (hk : InField k) (hu : A.units < cLine) {Q : Bool → Shared → Prop}
    (then' : ∀ b h' L' es' ep' t', Heap.SameBut a s.heap h' → Big P w h' a L' es' ep' t' → (k ∈ L.map (·.2) → L' = L) → (k ∉ L.map (·.2) → L'.Perm ((x, k) :: L)) → Q b { s with heap := h' }) :
    wpAny (model P w) A (setAddHashed a (.ref x) (thash P w k)) Q E s := by
  by_cases few : L.length + 1 < 64
  · refine add_at (B.small (by omega)) hx hu few fun b h' L' es' ep' t' sb R c1 c2 => then' b h' L' es' ep' t' sb (Big.of R fun p hp => ?_) c1 c2
    by_cases m : k ∈ L.map (·.2)
    · rw [c1 m] at hp; exact B.fld p hp
    · rcases List.mem_cons.mp ((c2 m).mem_iff.mp hp) with e | hp
      · rw [e]; exact hk
      · exact B.fld p hp
  · have r := B.free
    have m127 : t.mask = 127 := by rcases B.lay.mok with e | e | e <;> omega
    obtain ⟨o, ho, hex, hd⟩ := B.obj
    rw [setAddHashed]
    refine wpAny_holding ?_
    rw [show (100000 : Nat) = 99999 + 1 from rfl, setAddHashedIn_succ]
    refine wpAny_bind (wpAny_setState_of ho hd B.fits ?_)
    dsimp only
    refine wp_if_neg (by simp [byScan, Value.scannable]) (wpAny_bind (B.search hx hk hu (fun m => ?_) fun K m k2 k3 => ?_))
    · exact wpAny_pure (then' false s.heap L es ep t (Heap.SameBut.refl a s.heap) B (fun _ => rfl) fun z => absurd m z)
    · dsimp only
      refine wpAny_bind (wpAny_setState_of ho hd B.fits ?_)
      dsimp only
      obtain ⟨p1, p2, p3, p4, p5, p6, _, _, p9⟩ := B.lay.put k2 k3
      have pl1 : (t.put (way t.mask (thash P w k) K)).1.plain = true := p6.trans B.pl
      have ld1 : w.params.followText "set-order" = true ∨ (t.put (way t.mask (thash P w k) K)).1.led = true := by rw [p5]; exact B.ld
      have bound : L.length + 1 ≤ 75 := by
        have nd : (k :: L.map (·.2)).Nodup := List.nodup_cons.mpr ⟨m, B.apart⟩
        have := infield_few nd fun q hq => by
          rcases List.mem_cons.mp hq with e | hq
          · rw [e]; exact hk
          · obtain ⟨p, hp, rfl⟩ := List.mem_map.mp hq
            exact B.fld p hp
        rw [List.length_cons, List.length_map] at this
        exact this
      have full : ¬ (t.put (way t.mask (thash P w k) K)).1.tooFull = true := fun z => by
        have e : (t.put (way t.mask (thash P w k) K)).1.fill * 5 ≥ (t.put (way t.mask (thash P w k) K)).1.mask * 3 := by simpa [SetTable.tooFull] using z
        rw [p9, p4, List.length_map] at e
        omega
      cases hput : t.put (way t.mask (thash P w k) K) with
      | mk t1 pos =>
        rw [hput] at p1 p3 p4 pl1 ld1 full
        dsimp only at p1 p3 p4 pl1 ld1 full ⊢
        rw [← p1] at p2 p3
        -- the rows with the new one at its place
        have perm : (L.take pos ++ (x, k) :: L.drop pos).Perm ((x, k) :: L) := put_perm L pos (x, k)
        have num : (L.take pos ++ (x, k) :: L.drop pos).length = L.length + 1 := by rw [perm.length_eq, List.length_cons]
        have ent1 : (SetTable.insertAt es pos (thash P w k, Value.ref x)).toList = rowsOf P w (L.take pos ++ (x, k) :: L.drop pos) := by
          rw [rows_put, ← B.ent]; exact SetTable.toList_insertAt ..
        have lay1 : TabOk t1 ((L.take pos ++ (x, k) :: L.drop pos).map fun p => thash P w p.2) := by
          rw [List.map_append, List.map_cons, List.map_take, List.map_drop]; exact p3
        have apart1 : ((L.take pos ++ (x, k) :: L.drop pos).map (·.2)).Nodup := (perm.map (·.2)).nodup_iff.mpr (List.nodup_cons.mpr ⟨m, B.apart⟩)
        have size1 : (SetTable.insertAt es pos (thash P w k, Value.ref x)).size = L.length + 1 := by
          rw [← Array.length_toList, ent1, rowsOf, List.length_map, num]
        revert perm num ent1 lay1 apart1 size1
        generalize L.take pos ++ (x, k) :: L.drop pos = L1
        generalize SetTable.insertAt es pos (thash P w k, Value.ref x) = es1
        intro perm num ent1 lay1 apart1 size1
        have sb : Heap.SameBut a s.heap (s.heap.update a (Obj.putSet es1 t1)) := Heap.SameBut.update ..
        have last : Q true { s with heap := s.heap.update a (Obj.putSet es1 t1) } := by
          refine then' true _ L1 es1 (ep + 1) t1 sb ⟨⟨_, store_at (es' := es1) (t' := t1) ho hd, hex, rfl⟩, ent1, lay1, apart1, fun p hp => ?_, pl1, ld1, by rw [num, p4]; omega, fun p hp => ?_⟩ (fun z => absurd z m) fun _ => perm
          · rcases List.mem_cons.mp (perm.mem_iff.mp hp) with e | hp
            · rw [e]; exact isT_same hx ho hd sb
            · exact isT_same (B.elt p hp) ho hd sb
          · rcases List.mem_cons.mp (perm.mem_iff.mp hp) with e | hp
            · rw [e]; exact hk
            · exact B.fld p hp
        refine wp_if_pos pl1 (wpAny_bind (hashBy_tup hx ?_))
        simp only [if_true, full]
        refine wpAny_bind (wpAny_storeSet_of ho hd ?_ (by rw [size1, sizeLine_eq]; omega))
        exact wp_if_neg (by simp) (wpAny_pure last)
end
end Rw
namespace Rw
open PySem PySem.Spec PyProof.Rows L2
section
variable {P : Program} {w : World} {A : Around} {E : Value → Shared → Prop} {s : Shared}
theorem Big.held {h h' : Heap} {a : Addr} {L : List (Addr × List Int)} {es : Array (Int × Value)} {ep : Nat} {t : SetTable} (B : Big P w h a L es ep t) (ha : ∀ o, h.get? a = some o → h'.get? a = some o) (ht : ∀ p ∈ L, IsT P w h' p.2 p.1) : Big P w h' a L es ep t := by
  obtain ⟨o, e, z⟩ := B.obj
  exact ⟨⟨o, ha o e, z⟩, B.ent, B.lay, B.apart, ht, B.pl, B.ld, B.free, B.fld⟩
theorem Big.fresh {h : Heap} {a : Addr} (e : h.get? a = some { cls := .type "set", dict := none, data := .set #[] 0 (.fresh 0 0 (!w.params.followText "set-order")) }) : Big P w h a [] #[] 0 (.fresh 0 0 (!w.params.followText "set-order")) :=
  Big.of (setTR_fresh e) fun p hp => absurd hp (by simp)
/-- all items of a walk go into the set -/
theorem Big.loop {I : Addr} {fp wr : List Addr} {G : Array GenState → Array GenState → Prop} {n : Nat} {Pv : Nat → Value → Prop} {St : Nat → Shared → Prop} {R : Result → Shared → Prop} (W : WalksS P w A.in1 I fp wr G n Pv St) {S : Addr} (out : S ∉ fp)
    {ks : List (Addr × List Int)} (hn : n = ks.length) (val : ∀ i v, Pv i v → ∃ p, ks[i]? = some p ∧ v = .ref p.1) {h0 : Heap} (tup : ∀ p ∈ ks, IsT P w h0 p.2 p.1) (fld : ∀ p ∈ ks, InField p.2) (S0 : h0.get? S = none) (w0 : ∀ b ∈ wr, h0.get? b = none) (hu : A.in1.units < cLine) :
    ∀ (left i : Nat) (s : Shared), i + left = n → St i s → (∀ b o, h0.get? b = some o → s.heap.get? b = some o) → ∀ (L : List (Addr × List Int)) (es : Array (Int × Value)) (ep : Nat) (t : SetTable), Big P w s.heap S L es ep t → Got ks i L →
      (∀ s' L es ep t, Moved (S :: wr) G s s' → Big P w s'.heap S L es ep t → Got ks n L → (∀ b o, h0.get? b = some o → s'.heap.get? b = some o) → R (.ok (.ret .none)) s') →
      codeAny (model P w) A (.builtin "set.update.loop" ⟨[.ref S, .ref I], []⟩) R s := by
  have off : S ∉ wr := fun z => out (W.sub _ z)
  have wide : ∀ b ∈ wr, b ∈ S :: wr := fun b z => List.mem_cons_of_mem _ z
  have keeps : ∀ {s s' : Shared}, Moved wr G s s' → (∀ b o, h0.get? b = some o → s.heap.get? b = some o) → ∀ b o, h0.get? b = some o → s'.heap.get? b = some o := fun mv old b o e =>
    mv.heap b o (fun z => by rw [w0 b z] at e; cases e) (old b o e)
  intro left
  induction left with
  | zero =>
    intro i s hi st old L es ep t B g fin
    have e : i = n := by omega
    refine codeAny_builtin F.entry_set_update_loop ?_
    rw [Around.under_plainId F.plain_set_update_loop]
    show wpAny (model P w) A.in1 (pyNext (.ref I) >>= _) _ _ s
    refine wpAny_bind (W.done s _ _ (e ▸ st) fun s' mv => wpAny_pure (fin s' L es ep t (mv.mono wide) (B.held (fun o z => mv.heap S o off z) fun p hp => isT_keep (tup p ?_) (keeps mv old)) (e ▸ g) (keeps mv old)))
    exact List.mem_of_mem_take (g.sub p hp)
  | succ left ih =>
    intro i s hi st old L es ep t B g fin
    refine codeAny_builtin F.entry_set_update_loop ?_
    rw [Around.under_plainId F.plain_set_update_loop]
    show wpAny (model P w) A.in1 (pyNext (.ref I) >>= _) _ _ s
    refine wpAny_bind (W.item i s _ _ (by omega) st fun v s' pv st' mv => ?_)
    obtain ⟨p, hp, rfl⟩ := val i v pv
    have pm := List.mem_of_getElem? hp
    have old' := keeps mv old
    have B' : Big P w s'.heap S L es ep t := B.held (fun o z => mv.heap S o off z) fun q hq => isT_keep (tup q (List.mem_of_mem_take (g.sub q hq))) old'
    have hx : IsT P w s'.heap p.2 p.1 := isT_keep (tup p pm) old'
    show wpAny (model P w) A.in1 (holding [Value.ref p.1] (setAdd S (.ref p.1)) >>= _) _ _ s'
    rw [setAdd]
    refine wpAny_bind (wpAny_holding (wpAny_holding (wpAny_bind (wpAny_pyHash_tuple hu hx ?_))))
    refine Big.add (s := { s' with toks := s'.toks + (p.2.length + 1) }) B' hx (fld p pm) hu fun b h' L' es' ep' t' sb B2 c1 c2 => wpAny_pure ⟨plainId_quiet F.plain_set_update_loop _, ?_⟩
    have g' : Got ks (i + 1) L' := by
      by_cases c : p.2 ∈ L.map (·.2)
      · rw [c1 c]; exact g.same hp c
      · exact g.more hp (c2 c)
    have apartS : ∀ b, b ≠ S → h'.get? b = s'.heap.get? b := fun b z => sb.2 b z
    refine ih (i + 1) _ (by omega) (W.frame _ s' _ _ st' (Nat.le_add_right _ _) fun b hb o e => (apartS b fun z => out (z ▸ hb)).trans e) (fun b o e => (apartS b fun z => by rw [z, S0] at e; cases e).trans (old' b o e)) L' es' ep' t' B2 g' fun s2 L2 es2 ep2 t2 mv2 B3 g3 old3 => ?_
    refine fin s2 L2 es2 ep2 t2 (Moved.trans W.gtrans ((mv.mono wide).then_heap (Nat.le_add_right _ _) fun b o hb e => (apartS b fun z => hb (z ▸ List.mem_cons_self)).trans e) mv2) B3 g3 old3
end
end Rw
namespace Rw
open PySem PySem.Spec PyProof.Rows L2
section
variable {P : Program} {w : World} {A : Around} {E : Value → Shared → Prop} {s : Shared}
/-- the object of a set that was just made -/
abbrev setObj (w : World) : Obj := { cls := .type "set", dict := none, data := .set #[] 0 (.fresh 0 0 (!w.params.followText "set-order")) }
set_option maxHeartbeats 3200000 in
/-- set(xs), xs a list of pairs of the field -/
theorem call_setBig {l : Addr} {items : Array Value} {ks : List (Addr × List Int)} {Q : Value → Shared → Prop} (calm : A.handled = none) (isl : s.heap.IsList l items) (eq : items.toList = ks.map fun p => Value.ref p.1)
    (tup : ∀ p ∈ ks, IsT P w s.heap p.2 p.1) (fld : ∀ p ∈ ks, InField p.2) (hu : A.units + 3 < cLine)
    (fin : ∀ (h' : Heap) (tk : Nat) L es ep t, Big P w h' s.heap.objs.size L es ep t → Got ks ks.length L → (∀ b o, s.heap.get? b = some o → h'.get? b = some o) → Q (.ref s.heap.objs.size) { s with heap := h', toks := tk }) :
    wpAny (model P w) A (call (.type "set") [.ref l]) Q E s := by
  have num : items.size = ks.length := by rw [← Array.length_toList, eq, List.length_map]
  obtain ⟨c0, tl0, hmro⟩ := F.called_set.mro
  have hmade := F.called_set.made
  have hsub := F.called_set.sub
  have hnt := F.called_set.notType
  have hcc := F.called_set.canCreate
  have htc := F.typeCall_set_1 (.ref l)
  refine wpAny_call (codeAny_of_tree (?_ : wpAny _ _ (callAny (.type "set") _) _ _ _))
  refine wpAny_pure ⟨Code.quiet_builtin _ (by decide +kernel), codeAny_builtin F.entry_type_call (?_)⟩
  rw [Around.under_plain (weight_type_call_type "set" [.ref l] []) rfl]
  repeat (any_goals (first | assumption | wp_step))
  refine codeAny_mono (code_set_led1 (.ref l) (E := E) (Q₁ := fun u s1 => u = .ref s.heap.objs.size ∧ s1 = { s with heap := s.heap.push (setObj w) }) ⟨rfl, rfl⟩) fun r s1 hr => ?_
  rcases r with e | fl
  · exact hr
  cases fl with
  | next => exact hr.elim
  | brk => exact hr.elim
  | cont => exact hr.elim
  | ret u =>
    obtain ⟨rfl, rfl⟩ := hr
    have new : (s.heap.push (setObj w)).get? s.heap.objs.size = some (setObj w) := Heap.get?_push_size _ rfl
    have isS : Shared.TypeIs { s with heap := s.heap.push (setObj w) } (.ref s.heap.objs.size) "set" := ⟨_, new, rfl⟩
    have hli := F.called_set.init.lookup
    have hbi := F.called_set.init.bind (.ref s.heap.objs.size)
    repeat (any_goals (first | assumption | wp_step))
    refine codeAny_mono (codeAny_call_builtin (R := wants (fun u s2 => u = .none ∧ ∃ h' tk L es ep t, s2 = { s with heap := h', toks := tk } ∧ Big P w h' s.heap.objs.size L es ep t ∧ Got ks ks.length L ∧ (∀ b o, s.heap.get? b = some o → h'.get? b = some o)) E)
      F.called_set.init.plain F.entry_set_init (check_set_init_1 isS ?_)) fun r2 s2 hr2 => ?_
    · -- set.__init__ goes through the list
      obtain ⟨lo, hlo, lc, n, ld⟩ := isl
      obtain ⟨lcls, ldict, ldata, lslots⟩ := lo
      simp only at lc ld
      subst lc ld
      have hls := F.sub_list_set
      have hlf := F.sub_list_frozenset
      have hne : (Value.type "list" == Value.type "dict") = false := by decide
      have hol : (s.heap.push (setObj w)).get? l = some { cls := .type "list", dict := ldict, data := .seq items n, slots := lslots } := Heap.get?_push_of_some _ hlo
      have isl1 : (s.heap.push (setObj w)).IsList l items := ⟨_, hol, rfl, n, rfl⟩
      unfold Builtin.«set.__init__» noKeywords Builtin.Frozenset.updateFrom
      generalize hIt : pyIter = It
      wp_walk
      subst hIt
      refine wpAny_pyIter_list isl1 (wpAny_bind (wpAny_runValue ?_))
      have small : l < s.heap.objs.size := Heap.lt_size hlo
      have calm3 : A.in1.in1.in1.handled = none := by simp [calm]
      have sz : (s.heap.push (setObj w)).objs.size = s.heap.objs.size + 1 := Heap.size_push ..
      have none_at : ∀ b, s.heap.objs.size ≤ b → s.heap.get? b = none := fun b hb => by
        cases q : s.heap.get? b with
        | none => rfl
        | some o => exact absurd (Nat.lt_of_lt_of_le (Heap.lt_size q) hb) (Nat.lt_irrefl _)
      refine Big.loop (ks := ks) (h0 := s.heap) ((Walks.list calm3 _ l (by rw [sz]; exact Nat.ne_of_lt (Nat.lt_succ_of_lt small)) items).toS) (S := s.heap.objs.size) (fun z => by rw [sz] at z; rcases List.mem_cons.mp z with z | z; exact Nat.ne_of_lt (Nat.lt_succ_self _) z; exact Nat.ne_of_gt small (List.mem_singleton.mp z)) num (fun i v hv => ?_) tup fld (none_at _ (Nat.le_refl _)) (fun b hb => none_at b (by rw [List.mem_singleton.mp hb, sz]; exact Nat.le_succ _)) hu items.size 0 _ (Nat.zero_add _)
        ⟨⟨_, Heap.get?_push_size _ rfl, rfl, rfl⟩, isl1.push _⟩ (fun b o e => Heap.get?_push_of_some _ (Heap.get?_push_of_some _ e)) [] #[] 0 _ (Big.fresh (Heap.get?_push_of_some _ new)) (Got.zero ks) fun s' L es ep t mv B g old => ?_
      · have q : items.toList[i]? = some v := by rw [Array.getElem?_toList]; exact hv
        rw [eq, List.getElem?_map] at q
        cases hq : ks[i]? with
        | none => rw [hq] at q; cases q
        | some p => rw [hq] at q; exact ⟨p, rfl, (Option.some.inj q).symm⟩
      · obtain ⟨h', g2, d', tk', os'⟩ := s'
        have eg : g2 = s.gens := mv.gens
        have ed : d' = s.drawn := mv.drawn
        have eo : os' = s.os := mv.os
        subst eg ed eo
        rw [num] at g
        show wpAny _ _ _ _ _ _
        refine wpAny_pure (?_ : wpAny _ _ (ret Value.none) _ _ _)
        exact wpAny_pure ⟨rfl, h', tk', L, es, ep, t, rfl, B, g, old⟩
    · rcases r2 with e | fl2
      · exact hr2
      cases fl2 with
      | next => exact hr2.elim
      | brk => exact hr2.elim
      | cont => exact hr2.elim
      | ret u =>
        obtain ⟨rfl, h', tk, L, es, ep, t, rfl, B, g, old⟩ := hr2
        repeat (any_goals (first | assumption | wp_step))
        exact fin _ _ _ _ _ _ B g old
end
end Rw
namespace Rw
open PySem PySem.Spec PyProof.Rows L2
section
variable {P : Program} {w : World} {A : Around} {E : Value → Shared → Prop} {s : Shared}
/-- sorted(set) -/
theorem sorted_big {a : Addr} {L : List (Addr × List Int)} {es : Array (Int × Value)} {ep : Nat} {t : SetTable} {k : Value → Int × Int} {Q : Value → Shared → Prop} (B : Big P w s.heap a L es ep t) (calm : A.handled = none)
    (pairs : ∀ p ∈ L, Srt.IsPair s.heap (.ref p.1) (k (.ref p.1)).1 (k (.ref p.1)).2)
    (fin : ∀ (s' : Shared) (h1 : Heap) (e : Addr) (vs out : List Value), SrtO.Srtd (fun v u => SrtO.lexB (k v) (k u)) out → SrtO.Stb (fun v u => SrtO.lexB (k v) (k u)) out vs → vs.Perm (L.map fun p => Value.ref p.1) → s'.gens = s.gens → s'.os = s.os →
      (∀ b o, s.heap.get? b = some o → s'.heap.get? b = some o) → s.heap.objs.size ≤ e → (∃ n, s'.heap.get? e = some (seqObj "list" out.toArray n)) → Q (.ref e) s') :
    wpAny (model P w) A (call (.builtin "sorted") [.ref a]) Q E s := by
  obtain ⟨o, ho, hex, hd⟩ := B.obj
  have few := B.most.2
  have size := B.size
  refine Calls.call_function_entry kind_sorted plain_sorted entry_sorted (args_sorted1 _) (?_ : wpAny _ _ (Builtin.«sorted» _) _ _ _)
  unfold Builtin.«sorted»
  refine wpAny_bind (m := checkCount "sorted" 1 1 _) (wpAny_pure (wpAny_bind (collect_set (A := A.in1) calm ⟨o, ho, hex.1, hd⟩ B.fits (by rw [size]; unfold scanBound; omega) B.lay.ris B.ld fun s1 vs k1 le g1 o1 pm => ?_)))
  have ev : es.toList.map (·.2) = L.map fun p => Value.ref p.1 := by rw [B.ent, rowsOf, List.map_map]; rfl
  rw [ev] at pm
  have num : vs.length ≤ 76 := by rw [pm.length_eq, List.length_map]; exact few
  have fit : vs.length ≤ sizeLine := by rw [sizeLine_eq]; omega
  refine wpAny_bind (wpAny_newList (?_ : wpAny _ _ _ _ _ { s1 with heap := s1.heap.push (seqObj "list" vs.toArray 0) }) fit)
  have lst : (s1.heap.push (seqObj "list" vs.toArray 0)).get? s1.heap.objs.size = some (seqObj "list" vs.toArray 0) := Heap.get?_push_size _ rfl
  have old : ∀ b o, s.heap.get? b = some o → (s1.heap.push (seqObj "list" vs.toArray 0)).get? b = some o := fun b o q => Heap.get?_push_of_some _ (k1 b o q)
  refine wpAny_bind (wpAny_holding (wpAny_call_entry slot_list_sort ⟨_, lst, rfl⟩ entry_list_sort
    (SrtO.list_sort_ord (s := { s1 with heap := s1.heap.push (seqObj "list" vs.toArray 0) }) (SrtO.swo_lex k) lst fit (fun h2 => ?_) fun out a1 a2 => ⟨_, rfl, ?_⟩) (args_list_sort _)))
  · refine SrtO.pairs_sortableO (s := { s1 with heap := s1.heap.push (seqObj "list" vs.toArray 0) }) (by omega) (fun v hm => ?_) fun o e' => ?_
    · obtain ⟨p, hp, rfl⟩ := List.mem_map.mp (pm.mem_iff.mp hm)
      exact (pairs p hp).keeps fun b o e _ => old b o e
    · cases e'.symm.trans lst
      exact fun c => absurd (Value.type.inj c) (by decide)
  · have at' := sortedHeap_at (vs := vs) (out := out.toArray) lst
    refine wpAny_pure ⟨_, rfl, fin { s1 with heap := sortedHeap (s1.heap.push (seqObj "list" vs.toArray 0)) s1.heap.objs.size vs out.toArray } s1.heap s1.heap.objs.size vs out a1 a2 pm g1 o1 (fun b o q => ?_) le at'⟩
    have lt := Heap.lt_size (k1 b o q)
    rw [sortedHeap_old (Nat.ne_of_lt lt) (by rw [size_push']; exact Nat.lt_succ_of_lt lt)]
    exact old b o q
end
/-- the set at a without its tuples -/
structure Bare (P : Program) (w : World) (h : Heap) (a : Addr) (L : List (Addr × List Int)) : Prop where
  ex : ∃ (es : Array (Int × Value)) (ep : Nat) (t : SetTable) (h0 : Heap), Big P w h0 a L es ep t ∧ ∃ o, h.get? a = some o ∧ o.ExactSet ∧ o.data = .set es ep t
theorem Bare.of {P : Program} {w : World} {h : Heap} {a : Addr} {L : List (Addr × List Int)} {es : Array (Int × Value)} {ep : Nat} {t : SetTable} (B : Big P w h a L es ep t) : Bare P w h a L := ⟨es, ep, t, h, B, B.obj⟩
theorem Bare.full {P : Program} {w : World} {h : Heap} {a : Addr} {L : List (Addr × List Int)} (R : Bare P w h a L) (tup : ∀ p ∈ L, IsT P w h p.2 p.1) : ∃ es ep t, Big P w h a L es ep t := by
  obtain ⟨es, ep, t, h0, B, o⟩ := R.ex
  exact ⟨es, ep, t, o, B.ent, B.lay, B.apart, tup, B.pl, B.ld, B.free, B.fld⟩
def BigO (P : Program) (w : World) (a : Addr) (L : List (Addr × List Int)) : HO := .ext fun h => Bare P w h a L
theorem bigO_new {P : Program} {w : World} {H : Hp} {h : Heap} {a : Addr} {L : List (Addr × List Int)} (R : Bare P w h a L) : ObjOk P w H h a (BigO P w a L) := by
  obtain ⟨es, ep, t, h0, B, o, ho, r⟩ := id R.ex
  refine ⟨R, ⟨o, ho⟩, fun h1 h2 p k => ?_⟩
  obtain ⟨es', ep', t', h0', B', o', ho', r'⟩ := Bare.ex p
  exact ⟨es', ep', t', h0', B', o', k o' ho', r'⟩
section
variable {X : Cx}
def rSetBig (K : PySem.W.Frag) (P : Program) (w : World) : List V → Hp → VK → Prop := fun xs H Q => ∃ (l : Addr) (ks : List (Addr × List Int)), xs = [V.ref l] ∧ SqL K H l (ks.map fun p => V.ref p.1) ∧ (∀ p ∈ ks, SqT K H p.1 (p.2.map V.int)) ∧ (∀ p ∈ ks, InField p.2) ∧
  ∀ a L, H a = none → (∀ p ∈ L, p ∈ ks) → (∀ p ∈ ks, p.2 ∈ L.map (·.2)) → Q (.ref a) (upd H a (BigO P w a L))
theorem cr_setBig (hc : X.calm = true) (hu : X.A.units + 64 < cLine) : CallR X (.type "set") (rSetBig X.K X.prog X.w) := by
  intro pins s σ H xs us Q I r h
  obtain ⟨l, ks, rfl, hl, tup, fld, q⟩ := h
  rw [Vals.ref1 r]
  obtain ⟨its, rv, pl, _⟩ := I.list hl
  have new : H s.heap.objs.size = none := I.hok.fresh (Nat.le_refl _)
  refine call_setBig (P := X.prog) (w := X.w) (ks := ks) (I.ok.hd hc) pl.isList (by simpa using refs_of_vals rv) (fun p hp => I.isT (tup p hp)) fld (by omega) fun h' tk L es ep t B g old => ?_
  exact ⟨.ref s.heap.objs.size, _, I.laid (t' := tk) old (Nat.le_refl _) (bigO_new (Bare.of B)), rfl, q _ L new (fun p hp => List.mem_of_mem_take (g.sub p hp)) fun p hp => g.all p (by rw [List.take_length]; exact hp)⟩
def rSortBig (P : Program) (w : World) : List V → Hp → VK → Prop := fun vs H Q => ∃ (a : Addr) (L : List (Addr × List Int)), vs = [V.ref a] ∧ H a = some (BigO P w a L) ∧ (∀ p ∈ L, ∃ q : Pt, p.2 = [q.1, q.2] ∧ kPt.is H (.ref p.1) q) ∧
  ∀ (ys : List V) (qs : List Pt) (p : Addr), Paired (kPt.is H) ys qs → qs.Pairwise lt2 → (∀ q : Pt, q ∈ qs ↔ [q.1, q.2] ∈ L.map (·.2)) → (∀ y ∈ ys, ∃ p ∈ L, y = V.ref p.1) → H p = none → Q (.ref p) (upd H p (.lst ys))
theorem cr_sortBig (hc : X.calm = true) : CallR X (.builtin "sorted") (rSortBig X.prog X.w) := by
  intro pins s σ H xs us Q I r h
  obtain ⟨a, L, rfl, ha, pts, q⟩ := h
  rw [Vals.ref1 r]
  have isq : ∀ p ∈ L, SqT X.K H p.1 (p.2.map V.int) := fun p hp => by
    obtain ⟨z, e, t, e', ht⟩ := pts p hp
    cases e'
    rw [e]
    exact SqT.of ht
  have R : Bare X.prog X.w s.heap a L := (I.hok a _ ha).1
  obtain ⟨es, ep, t, B⟩ := R.full fun p hp => I.isT (isq p hp)
  have back : ∀ p ∈ L, kPt.is H (.ref p.1) (ptOf H (backV (.ref p.1))) := fun p hp => by
    obtain ⟨z, _, hz⟩ := pts p hp
    have e : ptOf H (backV (Value.ref p.1)) = z := ptOf_eq hz
    rw [e]; exact hz
  refine sorted_big (k := fun u => ptOf H (backV u)) B (I.ok.hd hc) (fun p hp => isPair_of I (back p hp)) fun s' h1 e vs out a1 a2 pm g o old le at' => ?_
  have new : H e = none := I.hok.fresh le
  have refs : ∀ u ∈ out, ∃ p ∈ L, u = Value.ref p.1 := fun u hu => by
    obtain ⟨p, hp, e⟩ := List.mem_map.mp (pm.mem_iff.mp (a2.perm.mem_iff.mp hu))
    exact ⟨p, hp, e.symm⟩
  have perm : (out.map backV).Perm (L.map fun p => V.ref p.1) := by
    have z := (a2.perm.trans pm).map backV
    rw [List.map_map] at z
    exact z
  have hpp : Paired (kPt.is H) (L.map fun p => V.ref p.1) (L.map fun p => ptOf H (backV (.ref p.1))) := by
    have z : ∀ M : List (Addr × List Int), (∀ p ∈ M, p ∈ L) → Paired (kPt.is H) (M.map fun p => V.ref p.1) (M.map fun p => ptOf H (backV (.ref p.1))) := by
      intro M
      induction M with
      | nil => exact fun _ => .nil
      | cons p M ih => exact fun h => .cons (back p (h p List.mem_cons_self)) (ih fun q hq => h q (List.mem_cons_of_mem _ hq))
    exact z L fun _ h => h
  have key : ∀ p ∈ L, p.2 = [(ptOf H (backV (.ref p.1))).1, (ptOf H (backV (.ref p.1))).2] := fun p hp => by
    obtain ⟨z, e, hz⟩ := pts p hp
    rw [e, show ptOf H (backV (Value.ref p.1)) = z from ptOf_eq hz]
  have nd : (L.map fun p => ptOf H (backV (.ref p.1))).Nodup := by
    refine List.pairwise_map.mpr (List.Pairwise.imp_of_mem (fun {p q} hp hq ne e => ne ?_) (List.pairwise_map.mp B.apart))
    rw [key p hp, key q hq, e]
  have st : SrtO.Stb (ltP (ptOf H)) (out.map backV) (vs.map backV) := SrtO.Stb.map (ltP_swo (ptOf H)) backV a2
  have hpp2 : Paired (kPt.is H) (vs.map backV) ((vs.map backV).map (ptOf H)) := pr_of_all fun v hv => by
    obtain ⟨u, hu, rfl⟩ := List.mem_map.mp hv
    obtain ⟨p, hp, e⟩ := List.mem_map.mp (pm.mem_iff.mp hu)
    rw [← e]
    exact back p hp
  have pmv : ((vs.map backV).map (ptOf H)).Perm (L.map fun p => ptOf H (backV (.ref p.1))) := by
    have z := (pm.map backV).map (ptOf H)
    rw [List.map_map, List.map_map, List.map_map] at z
    rw [List.map_map]
    exact z
  obtain ⟨qs, b1, b2, b3⟩ := sorted_pts hpp2 (pmv.nodup_iff.mpr nd) (SrtO.srtd_map a1) st
  have memq : ∀ z : Pt, z ∈ qs ↔ [z.1, z.2] ∈ L.map (·.2) := fun z => by
    rw [b2.mem_iff, pmv.mem_iff]
    constructor
    · intro h
      obtain ⟨p, hp, e⟩ := List.mem_map.mp h
      exact List.mem_map.mpr ⟨p, hp, by rw [key p hp, e]⟩
    · intro h
      obtain ⟨p, hp, e⟩ := List.mem_map.mp h
      rw [key p hp] at e
      injection e with e1 e2
      injection e2 with e2 _
      exact List.mem_map.mpr ⟨p, hp, Prod.ext e1 e2⟩
  obtain ⟨n, hob⟩ := at'
  have len : (out.map backV).length ≤ sizeLine := by
    rw [perm.length_eq, List.length_map, sizeLine_eq]
    have := B.most.2
    omega
  have hv : Vals (out.map backV) out := vals_back fun u hu => by
    obtain ⟨p, _, e⟩ := refs u hu
    exact ⟨p.1, e⟩
  have es' : s' = { s with heap := s'.heap, gens := s'.gens, drawn := s'.drawn, toks := s'.toks } := by
    cases s'; cases s; cases o; rfl
  rw [es']
  have J : Inv X pins σ (upd H e (.lst (out.map backV))) { s with heap := s'.heap, gens := s'.gens, drawn := s'.drawn, toks := s'.toks } :=
    I.call (ch := []) (Un.laid old le new) (I.hok.laid old le ⟨len, out, n, hv, hob⟩) (by rw [g]; exact I.bare) fun _ z => nomatch z
  refine ⟨.ref e, _, J, rfl, q (out.map backV) qs e b1 b3 memq (fun y hy => ?_) new⟩
  obtain ⟨u, hu, rfl⟩ := List.mem_map.mp hy
  obtain ⟨p, hp, e⟩ := refs u hu
  exact ⟨p, hp, by rw [e]; rfl⟩
end
end Rw
namespace Rw
open PySem PySem.Spec PyProof.Rows L2
/-! ### sorted(set(a + b)) of names -/
theorem keys_of {F : Hp} : ∀ {vs : List V} {ps : List Pt}, Paired (kPt.is F) vs ps → ∃ ks : List (Addr × List Int), ks.map (fun p => V.ref p.1) = vs ∧ ks.map (·.2) = ps.map (fun p => [p.1, p.2]) ∧ ∀ p ∈ ks, F p.1 = some (.tup (p.2.map V.int))
  | _, _, .nil => ⟨[], rfl, rfl, fun p h => absurd h (by simp)⟩
  | _, _, .cons (b := q) ⟨t, e, ht⟩ r => by
    obtain ⟨ks, h1, h2, h3⟩ := keys_of r
    refine ⟨(t, [q.1, q.2]) :: ks, by rw [List.map_cons, h1, e], by rw [List.map_cons, List.map_cons, h2], fun p hp => ?_⟩
    rcases List.mem_cons.mp hp with rfl | hp
    · exact ht
    · exact h3 p hp
def InF (p : Pt) : Prop := 0 ≤ p.1 ∧ p.1 < 3 ∧ 1 ≤ p.2 ∧ p.2 ≤ 25
structure UnionOf (ps qs out : List Pt) : Prop where
  sort : out.Pairwise lt2
  mem : ∀ p, p ∈ out ↔ p ∈ ps ∨ p ∈ qs
theorem read_union {P : Program} {w : World} {K : PySem.W.Frag} {F H : Hp} {a b : Addr} {xs ys : List V} {ps qs : List Pt} {Q : VK} (fh : Same F H) (ha : H a = some (.lst xs)) (pa : Paired (kPt.is F) xs ps) (hb : H b = some (.lst ys)) (pb : Paired (kPt.is F) ys qs)
    (fld : ∀ p, p ∈ ps ∨ p ∈ qs → InF p) (len : ps.length + qs.length ≤ 100000)
    (k : ∀ (H' : Hp) (c : Addr) (vs : List V) (out : List Pt), Ext M0 F H F H' → H c = none → F c = none → H' c = some (.lst vs) → Paired (kPt.is F) vs out → UnionOf ps qs out → Q (.ref c) H') :
    rCat (.ref a) (.ref b) H fun x H1 => rSetBig K P w [x] H1 fun y H2 => rSortBig P w [y] H2 Q := by
  have l1 := pr_len pa
  have l2 := pr_len pb
  obtain ⟨ks, h1, h2, h3⟩ := keys_of (pr_append pa pb)
  refine ⟨a, b, xs, ys, rfl, rfl, ha, hb, by rw [sizeLine_eq]; omega, fun l nl => ?_⟩
  have X1 := (Ext.refl (M := M0) fh).tmp (o := .lst (xs ++ ys)) nl
  have hl : upd H l (.lst (xs ++ ys)) l = some (.lst (ks.map fun p => V.ref p.1)) := by rw [upd_same, h1]
  have two : ∀ p ∈ ks, ∃ q : Pt, p.2 = [q.1, q.2] ∧ (q ∈ ps ∨ q ∈ qs) := fun p hp => by
    have z : p.2 ∈ ks.map (·.2) := List.mem_map.mpr ⟨p, hp, rfl⟩
    rw [h2] at z
    obtain ⟨q, hq, e⟩ := List.mem_map.mp z
    exact ⟨q, e.symm, List.mem_append.mp hq⟩
  refine ⟨l, ks, rfl, SqL.of hl, fun p hp => SqT.of (X1.fh _ _ (h3 p hp)), fun p hp => ?_, fun S L nS sub all => ?_⟩
  · obtain ⟨q, e, hq⟩ := two p hp
    obtain ⟨f1, f2, f3, f4⟩ := fld q hq
    exact ⟨q.1, q.2, e, f1, f2, f3, f4⟩
  · have X2 := X1.tmp (o := BigO P w S L) nS
    refine ⟨S, L, rfl, upd_same, fun p hp => ?_, fun vs out c hy hs hm hsub nc => ?_⟩
    · obtain ⟨q, e, _⟩ := two p (sub p hp)
      have ht := h3 p (sub p hp)
      rw [e] at ht
      exact ⟨q, e, p.1, rfl, X2.fh _ _ ht⟩
    · have X3 := X2.tmp (o := .lst vs) nc
      refine k _ c vs out X3 (X2.free nc) (X2.ffree nc) upd_same ?_ ⟨hs, fun q => ?_⟩
      · have key : ∀ {vs : List V} {out : List Pt}, Paired (kPt.is (upd (upd H l (.lst (xs ++ ys))) S (BigO P w S L))) vs out → (∀ y ∈ vs, ∃ p ∈ L, y = V.ref p.1) → Paired (kPt.is F) vs out := by
          intro vs out h
          induction h with
          | nil => exact fun _ => .nil
          | cons r t ih =>
            intro hz
            refine .cons ?_ (ih fun y hy => hz y (List.mem_cons_of_mem _ hy))
            obtain ⟨p, hp, e⟩ := hz _ List.mem_cons_self
            obtain ⟨t0, e0, ht0⟩ := r
            rw [e] at e0
            cases e0
            have ht := h3 p (sub p hp)
            have hF := X2.fh _ _ ht
            rw [hF] at ht0
            exact ⟨_, e, by rw [ht, ← Option.some.inj ht0]⟩
        exact key hy hsub
      · rw [hm q]
        constructor
        · intro z
          obtain ⟨p, hp, e⟩ := List.mem_map.mp z
          obtain ⟨q', e', hq'⟩ := two p (sub p hp)
          rw [e'] at e
          injection e with e1 e2
          injection e2 with e2 _
          rw [show q = q' from Prod.ext e1.symm e2.symm]
          exact hq'
        · intro z
          have z1 : [q.1, q.2] ∈ ks.map (·.2) := by
            rw [h2]
            exact List.mem_map.mpr ⟨q, List.mem_append.mpr z, rfl⟩
          obtain ⟨p, hp, e⟩ := List.mem_map.mp z1
          rw [← e]
          exact all p hp
end Rw
namespace Rw
open PySem PySem.Spec PyProof.Rows L2
theorem eqv_pt (p q : Pt) : PyData.eqv (dPt p) (dPt q) = decide (p = q) := by
  obtain ⟨a, b⟩ := p
  obtain ⟨a', b'⟩ := q
  unfold dPt
  simp only [PyData.eqv, PyData.eqvAll, Bool.and_true]
  by_cases e1 : a = a' <;> by_cases e2 : b = b' <;> simp [e1, e2]
theorem any_pts (p : Pt) : ∀ ps : List Pt, ((ps.map dPt).any fun z => PyData.eqv z (dPt p)) = decide (p ∈ ps)
  | [] => by simp
  | q :: ps => by
    rw [List.map_cons, List.any_cons, any_pts p ps, eqv_pt]
    by_cases e1 : q = p
    · simp [e1]
    · have e1' : ¬ p = q := fun z => e1 z.symm
      by_cases e2 : p ∈ ps <;> simp [e1, e1', e2]
theorem canLay_pts : ∀ ps : List Pt, PyData.canLayAll0 (ps.map dPt) = true
  | [] => rfl
  | x :: xs => by
    rw [List.map_cons, PyData.canLayAll0, canLay_pts xs]
    simp [dPt, PyData.canLay0, PyData.canLayAll0]
theorem depth_pts : ∀ ps : List Pt, PyData.depthAll (ps.map dPt) ≤ 1
  | [] => by simp [PyData.depthAll]
  | x :: xs => by
    rw [List.map_cons, PyData.depthAll]
    have := depth_pts xs
    have h : (dPt x).depth ≤ 1 := by simp [dPt, PyData.depth, PyData.depthAll]
    omega
theorem shaped_pts (ps : List Pt) : SeqAt.shaped (.list (ps.map dPt)) = true := by
  rw [SeqAt.shaped, PyData.canLay0, canLay_pts, PyData.depth]
  have := depth_pts ps
  simp
  omega
theorem shaped_pt (p : Pt) : SeqAt.shaped (dPt p) = true := by
  simp [SeqAt.shaped, dPt, PyData.canLay0, PyData.canLayAll0, PyData.depth, PyData.depthAll]
theorem lt2_ne {ps : List Pt} (h : ps.Pairwise lt2) : ps.Nodup := h.imp fun {a b} h e => by rw [e] at h; unfold lt2 at h; omega
/-! ### what the law keeps of a lead -/
def B18 (q : Pt) : Prop := 0 ≤ q.1 ∧ q.1 ≤ 2 ∧ 1 ≤ q.2 ∧ q.2 ≤ 6
def box18 : List Pt := (List.range 3).flatMap fun (h : Nat) => (List.range 6).map fun (n : Nat) => ((h : Int), (n : Int) + 1)
theorem box18_len : box18.length = 18 := by decide +kernel
theorem box18_mem {p : Pt} (b : B18 p) : p ∈ box18 := by
  obtain ⟨a, b, c, e⟩ := b
  refine List.mem_flatMap.mpr ⟨p.1.toNat, by simp; omega, List.mem_map.mpr ⟨(p.2 - 1).toNat, by simp; omega, Prod.ext ?_ ?_⟩⟩
  · show (p.1.toNat : Int) = p.1; omega
  · show ((p.2 - 1).toNat : Int) + 1 = p.2; omega
theorem B18.inF {p : Pt} (b : B18 p) : InF p := by
  obtain ⟨a, b, c, e⟩ := b
  exact ⟨a, by omega, c, by omega⟩
theorem b18_len {ps : List Pt} (s : ps.Pairwise lt2) (b : ∀ q ∈ ps, B18 q) : ps.length ≤ 18 := by
  have := nodup_sub ps box18 (lt2_ne s) fun q hq => box18_mem (b q hq)
  rwa [box18_len] at this
structure GoodE (e : Ent) : Prop where
  rows : RowsOf e.ps e.rs
  sort : e.ps.Pairwise lt2
  box : ∀ q ∈ e.ps, B18 q
structure EFit (many : Int) (es : List Ent) : Prop where
  seat : ∀ e ∈ es, 0 ≤ e.s ∧ e.s < many
  nd : (es.map (·.s)).Nodup
  good : ∀ e ∈ es, GoodE e
theorem EFit.nil {many : Int} : EFit many [] := ⟨fun e h => absurd h (by simp), .nil, fun e h => absurd h (by simp)⟩
section
variable {many : Int} {es : List Ent} {e : Ent}
theorem EFit.len (f : EFit many es) (m6 : many ≤ 6) : es.length ≤ 6 := by
  have := nodup_sub (es.map (·.s)) [0, 1, 2, 3, 4, 5] f.nd fun z hz => by
    obtain ⟨e, he, rfl⟩ := List.mem_map.mp hz
    have := f.seat e he
    simp only [List.mem_cons]
    omega
  rwa [List.length_map] at this
theorem GoodE.len (g : GoodE e) : e.ps.length ≤ 18 := b18_len g.sort g.box
theorem EFit.ok (f : EFit many es) (m6 : many ≤ 6) : EOk es := ⟨Nat.le_trans (f.len m6) (by decide), fun e he => ⟨(f.good e he).rows.can.ok, by
  have h1 := (f.good e he).rows.len
  have h2 := (f.good e he).len
  omega⟩⟩
theorem put_seat (es : List Ent) (e : Ent) : ∀ x ∈ putE es e, x = e ∨ (x ∈ es ∧ x.s ≠ e.s) ∨ ((es.any fun x => decide (x.s = e.s)) = false ∧ x ∈ es) := by
  intro x hx
  unfold putE at hx
  split at hx
  · obtain ⟨y, hy, hxy⟩ := List.mem_map.mp hx
    by_cases h : y.s = e.s
    · rw [if_pos h] at hxy; exact .inl hxy.symm
    · rw [if_neg h] at hxy; subst hxy; exact .inr (.inl ⟨hy, h⟩)
  · rename_i h
    rcases List.mem_append.mp hx with hx | hx
    · exact .inr (.inr ⟨by simpa using h, hx⟩)
    · exact .inl (List.mem_singleton.mp hx)
theorem put_map (es : List Ent) (e : Ent) : (es.any fun x => decide (x.s = e.s)) = true → (putE es e).map (·.s) = es.map (·.s) := by
  intro h
  unfold putE
  rw [if_pos h, List.map_map]
  refine List.map_congr_left fun x _ => ?_
  show (if x.s = e.s then e else x).s = x.s
  by_cases c : x.s = e.s
  · rw [if_pos c]; exact c.symm
  · rw [if_neg c]
theorem EFit.put (f : EFit many es) (s0 : 0 ≤ e.s) (s1 : e.s < many) (g : GoodE e) : EFit many (putE es e) := by
  refine ⟨fun x hx => ?_, ?_, fun x hx => ?_⟩
  · rcases put_seat es e x hx with rfl | ⟨h, _⟩ | ⟨_, h⟩
    · exact ⟨s0, s1⟩
    · exact f.seat x h
    · exact f.seat x h
  · by_cases c : (es.any fun x => decide (x.s = e.s)) = true
    · rw [put_map es e c]; exact f.nd
    · unfold putE
      rw [if_neg c, List.map_append]
      refine List.nodup_append.mpr ⟨f.nd, by simp, fun a ha b hb => ?_⟩
      obtain ⟨x, hx, rfl⟩ := List.mem_map.mp ha
      obtain rfl : b = e.s := by simpa using hb
      intro z
      exact c (List.any_eq_true.mpr ⟨x, hx, decide_eq_true z⟩)
  · rcases put_seat es e x hx with rfl | ⟨h, _⟩ | ⟨_, h⟩
    · exact g
    · exact f.good x h
    · exact f.good x h
end
/-- all names of some entries -/
structure AllOf (es : List Ent) (ps : List Pt) : Prop where
  sort : ps.Pairwise lt2
  mem : ∀ q, q ∈ ps ↔ ∃ e ∈ es, q ∈ e.ps
theorem AllOf.nil : AllOf [] [] := ⟨.nil, fun q => by simp⟩
theorem AllOf.box {many : Int} {es : List Ent} {ps : List Pt} {i : Nat} (a : AllOf (es.take i) ps) (f : EFit many es) : ∀ q ∈ ps, B18 q := fun q hq => by
  obtain ⟨e, he, h⟩ := (a.mem q).mp hq
  exact (f.good e (List.mem_of_mem_take he)).box q h
theorem AllOf.box' {many : Int} {es : List Ent} {ps : List Pt} (a : AllOf es ps) (f : EFit many es) : ∀ q ∈ ps, B18 q := fun q hq => by
  obtain ⟨e, he, h⟩ := (a.mem q).mp hq
  exact (f.good e he).box q h
theorem DK.at {R : V → Ent → Prop} {kvs : List (Key × V)} {es : List Ent} (d : DK R kvs es) (nd : (es.map (·.s)).Nodup) {i : Nat} {k : Key} {v : V} (h : kvs[i]? = some (k, v)) : ∃ e, es[i]? = some e ∧ k = .inl e.s ∧ R v e ∧ valV kvs k = some v := by
  induction d generalizing i with
  | nil => simp at h
  | @cons kv x kvs es r t ih =>
    rw [List.map_cons, List.nodup_cons] at nd
    cases i with
    | zero =>
      simp only [List.getElem?_cons_zero, Option.some.injEq] at h
      subst h
      exact ⟨x, rfl, r.1, r.2, by unfold valV; rw [List.find?_cons_of_pos (p := fun kv : Key × V => decide (kv.1 = k)) (decide_eq_true rfl)]; rfl⟩
    | succ j =>
      rw [List.getElem?_cons_succ] at h
      obtain ⟨e, h1, h2, h3, h4⟩ := ih nd.2 h
      refine ⟨e, by rw [List.getElem?_cons_succ]; exact h1, h2, h3, ?_⟩
      have ne : kv.1 ≠ k := fun z => by
        rw [r.1, h2] at z
        have z' : x.s = e.s := Sum.inl.inj z
        exact nd.1 (z' ▸ List.mem_map.mpr ⟨e, List.mem_of_getElem? h1, rfl⟩)
      unfold valV at h4 ⊢
      rw [List.find?_cons_of_neg (by simpa using ne)]
      exact h4
/-! ### for seat in d: must = sorted(set(must + d[seat])) -/
theorem Ext.under {F H F' H' : Hp} {d : Addr} {u : HO} (X : Ext M0 F H F' H') (n : H d ≠ none) (fd : F d = none) : Ext M0 F (upd H d u) F' (upd H' d u) := by
  refine ⟨X.ff, fun b o e => ?_, fun b o e _ => ?_, fun b e => ?_, fun b e => ?_⟩
  · rw [upd_ne (ne_of_none e (by rw [X.new d n]; exact fd))]; exact X.fh b o e
  · by_cases h : b = d
    · rw [h, upd_same] at e ⊢; exact e
    · rw [upd_ne h] at e ⊢; exact X.hh b o e id
  · by_cases h : b = d
    · rw [h, upd_same]; simp
    · rw [upd_ne h] at e ⊢; exact X.tr b e
  · by_cases h : b = d
    · rw [h]; exact X.new d n
    · rw [upd_ne h] at e; exact X.new b e
structure UL (F H : Hp) (d : Addr) (od : Obj) (kvs : List (Key × V)) (es : List Ent) (i : Nat) (F' H' : Hp) (v : V) (ps : List Pt) : Prop where
  fd : F d = none
  dk : DK (PtR F) kvs es
  hd : H' d = some (.frz od (.dK kvs))
  X : Ext M0 F H F' (upd H' d (.dK kvs))
  kv : (kL kPt).is F' v ps
  all : AllOf (es.take i) ps
section
variable {F H F' H' : Hp} {d : Addr} {od : Obj} {kvs : List (Key × V)} {es : List Ent} {i : Nat} {v : V} {ps : List Pt}
theorem UL.fd' (U : UL F H d od kvs es i F' H' v ps) (hd : H d ≠ none) : F' d = none := by rw [U.X.new d hd]; exact U.fd
theorem UL.fh (U : UL F H d od kvs es i F' H' v ps) (hd : H d ≠ none) : Same F' H' := fun b o e => by
  have h := U.X.fh b o e
  rwa [upd_ne (ne_of_none e (U.fd' hd))] at h
theorem UL.start (fh : Same F H) (fd : F d = none) (hd : H d = some (.dK kvs)) (dk : DK (PtR F) kvs es) (kv : (kL kPt).is F v []) : UL F H d od kvs es 0 F (upd H d (.frz od (.dK kvs))) v [] := by
  refine ⟨fd, dk, upd_same, ?_, kv, AllOf.nil⟩
  have e : upd (upd H d (.frz od (.dK kvs))) d (.dK kvs) = H := funext fun b => by
    by_cases h : b = d
    · rw [h, upd_same, hd]
    · rw [upd_ne h, upd_ne h]
  rw [e]
  exact Ext.refl fh
theorem UL.step {P : Program} {w : World} {K : PySem.W.Frag} {many : Int} {x : V} {k : Key} {Q : VK} (U : UL F H d od kvs es i F' H' v ps) (hd : H d ≠ none) (f : EFit many es) (m6 : many ≤ 6) (hi : kvs[i]? = some (k, x))
    (q : ∀ F2 H2 v2 ps2, UL F H d od kvs es (i + 1) F2 H2 v2 ps2 → Q v2 H2) : valV kvs k = some x ∧ rCat v x H' fun y H1 => rSetBig K P w [y] H1 fun z H2 => rSortBig P w [z] H2 Q := by
  obtain ⟨e, he, rfl, r, hv⟩ := U.dk.at f.nd hi
  refine ⟨hv, ?_⟩
  obtain ⟨a, xs, rfl, ha, pa⟩ := id U.kv
  obtain ⟨b, ys, rfl, hb, pb⟩ := r
  have fh := U.fh hd
  have g := f.good e (List.mem_of_getElem? he)
  have bx := U.all.box f
  have l1 := b18_len U.all.sort bx
  have l2 := g.len
  refine read_union fh (fh _ _ ha) pa (fh _ _ (U.X.ff _ _ hb)) (pr_mono (fun _ _ z => kPt.mono U.X.ff z) pb) (fun p hp => hp.elim (fun z => (bx p z).inF) fun z => (g.box p z).inF) (by omega) fun H2 c vs out X nc fc hc hp un => ?_
  have X1 := X.under (d := d) (u := .dK kvs) (by rw [U.hd]; simp) (U.fd' hd)
  have nd : c ≠ d := fun z => by rw [z, U.hd] at nc; cases nc
  have X2 := (U.X.trans X1).frz (U.X.free (by rw [upd_ne nd]; exact nc)) fc (o := .lst vs) (by rw [upd_ne nd]; exact hc)
  refine q (upd F' c (.lst vs)) H2 (.ref c) out ⟨U.fd, U.dk, X.hh _ _ U.hd id, X2, kL_new fc hp, un.sort, fun p => ?_⟩
  rw [un.mem p, U.all.mem p, List.take_add_one, he]
  constructor
  · rintro (⟨e', he', h⟩ | h)
    · exact ⟨e', List.mem_append.mpr (.inl he'), h⟩
    · exact ⟨e, List.mem_append.mpr (.inr (by simp)), h⟩
  · rintro ⟨e', he', h⟩
    rcases List.mem_append.mp he' with z | z
    · exact .inl ⟨e', z, h⟩
    · obtain rfl : e' = e := by simpa using z
      exact .inr h
end
end Rw
namespace Rw
open PySem PySem.Spec PyProof.Rows L2
theorem cnt_pos {p : Pt} : ∀ {sets : List (List Row)}, 1 ≤ cnt sets p → ∃ rs ∈ sets, mem rs p
  | [], h => absurd h (show ¬ (1 : Int) ≤ 0 by decide)
  | rs :: sets, h => by
    by_cases m : mem rs p
    · exact ⟨rs, List.mem_cons_self, m⟩
    · have e : cnt (rs :: sets) p = ind (mem rs p) + cnt sets p := rfl
      rw [e, ind_neg m] at h
      obtain ⟨q, hq, hm⟩ := cnt_pos (p := p) (sets := sets) (by omega)
      exact ⟨q, List.mem_cons_of_mem _ hq, hm⟩
theorem cnt_nn (p : Pt) : ∀ sets : List (List Row), 0 ≤ cnt sets p
  | [] => Int.le_refl _
  | rs :: sets => by
    have e : cnt (rs :: sets) p = ind (mem rs p) + cnt sets p := rfl
    rw [e]
    have := cnt_nn p sets
    rcases ind_or (mem rs p) with ⟨_, z⟩ | ⟨_, z⟩ <;> rw [z] <;> omega
theorem cnt_next {sets : List (List Row)} {i : Nat} {rs : List Row} (h : sets[i]? = some rs) (p : Pt) : cnt (sets.take (i + 1)) p = cnt (sets.take i) p + ind (mem rs p) := by
  have e : sets.take (i + 1) = sets.take i ++ [rs] := by rw [List.take_add_one, h]; rfl
  rw [e, cnt_snoc]
abbrev NSh : List Str := ["_law_many", "_law_kept", "_law_every", "_law_seat", "_law_name"]
def rLn (K : PySem.W.Frag) : List V → Hp → VK → Prop := fun xs H Q => ∃ x n, xs = [x] ∧ LenV K x H n ∧ Q (.int n) H
theorem call_ln {X : Cx} : CallR X (.builtin "len") (rLn X.K) := call_len
structure TxU (mg : Str → Option Value) : Prop where
  sorted : mg "sorted" = none
  set : mg "set" = none
  len : mg "len" = none
structure ShownOf (many : Int) (es : List Ent) (out : List Pt) : Prop where
  sort : out.Pairwise lt2
  mem : ∀ q, q ∈ out ↔ many / 2 + 1 ≤ cnt (es.map (·.rs)) q
  box : ∀ q ∈ out, B18 q
def spLShown : Sp := fun vs H Q _ => ∃ (F : Hp) (d : Addr) (kvs : List (Key × V)) (es : List Ent) (many : Int), vs = [.int many, .ref d] ∧ Same F H ∧ H d = some (.dK kvs) ∧ F d = none ∧ DK (PtR F) kvs es ∧ EFit many es ∧ 0 ≤ many ∧ many ≤ 6 ∧ RetL M0 F H kPt (ShownOf many es) Q
section
variable {P : Program} {w : World} {K : PySem.W.Frag} {mg : Str → Option Value} {base : Heap}
theorem ok_law_shown {f : Addr} {fd : FuncData} (F0 : Fun K "_law_shown" "_law_shown" s_law_shown f fd) (T : TxU mg) : FnOk P w K mg base CX0 1 f fd ["_law_many", "_law_kept"] spLShown := by
  refine F0.ok sc_law_shown (fun vs H Q E h => ?_) (fun cdv A outer s H vs Q E hr h => ?_)
  · obtain ⟨F, d, kvs, es, many, rfl, _⟩ := h
    rfl
  · obtain ⟨F, d, kvs, es, many, rfl, fh, hd, fd, dk, ef, m0, m6, q⟩ := h
    have hu := hr.units
    have hu1 := hu_of hr
    have hu5 : (A.deeper (PyProof.Rows.envOfC "_law_shown" (defScope s_law_shown) s.heap.objs.size f cdv)).units + 65 < cLine := by have := hr.un; omega
    refine ⟨_, pss_cons (ps_set (i := 2) sc_law_shown.nd rfl (.inl rfl) (pe_lst pa_nil))
      (pss_cons (ps_lock (ps_for PassesOwn.never rfl (pi_keys (pv 1)) (pg_name (i := 3) sc_law_shown.nd rfl (.inl rfl))
        (pss_one (ps_set (i := 2) sc_law_shown.nd rfl (.inl rfl) (pe_callB (cr_sortBig (by rfl)) (by rfl) T.sorted (by decide +kernel) (pa_cons (pe_callTy (cr_setBig (by rfl) hu) (by rfl) T.set (by decide +kernel) (pa_cons (pe_op op_cat (pv 2) (pe_dget hu1 (pv 1) (pv 3) (fun _ _ => rfl))) pa_nil)) pa_nil))))))
      (pss_one (ps_ret (pe_lc (own := [("_law_name", 4)]) (g := gName 4) (tt := tTest (tOp (rI0 fun i j => .bl (decide (j < i))) (tOp (rI CMul fun i j => .int (i * j)) (tC (.int 2)) (tCB (rLn K) (tCons (tLockE (tLc (iKeys (tVar 1)) (gName 3) (tTest (tOp (rInD K) (tVar 4) (tDGet (tVar 1) (tVar 3)))) (tVar 3) [3])) tNil))) (tVar 0))) (te := tVar 4) (by rfl) sc_law_shown.nd (pi_list (pv 2))
        (blkOk_by (own := [("_law_name", 4)]) (N := NSh) (sc := defScope s_law_shown) (by decide +kernel)) (fun _ _ _ _ _ => (pg_name (i := 4) sc_law_shown.nd rfl (.inr rfl))) (fun _ _ _ _ _ => pts_one (pt_cmpR op_gt (pe_op op_mul pe_int (pe_callB call_ln (by rfl) T.len PySem.boot_len (pa_cons (pe_lock (pe_lc (own := [("_law_seat", 3)]) (g := gName 3) (tt := tTest (tOp (rInD K) (tVar 4) (tDGet (tVar 1) (tVar 3)))) (te := tVar 3) (by rfl) sc_law_shown.nd (pi_keys (pv 1))
        (blkOk_by (own := [("_law_seat", 3)]) (N := NSh) (by rfl)) (fun _ _ _ _ _ => (pg_name (i := 3) sc_law_shown.nd rfl (.inl rfl))) (fun _ _ _ _ _ => pts_one (pt_cmpR (op_inD hu5) (pv 4) (pe_dget hu1 (pv 1) (pv 3) (fun _ _ => rfl)) (by rfl))) (fun _ _ _ _ _ => (pv 3)))) pa_nil))) (pv 0) (nomark _))) (fun _ _ _ _ _ => (pv 4)))))), ?_⟩
    refine ⟨Nat.zero_le _, fun e0 ne0 => ?_⟩
    have X0 := (Ext.refl (M := M0) fh).lay (o := .lst []) ne0
    have k0 : (kL kPt).is (upd F e0 (.lst [])) (.ref e0) [] := ⟨e0, [], rfl, upd_same, .nil⟩
    have hd0 : upd H e0 (.lst []) d = some (.dK kvs) := by rw [upd_ne (ne_of_none hd ne0)]; exact hd
    have fd0 : upd F e0 (.lst []) d = none := by rw [upd_ne (ne_of_none hd ne0)]; exact fd
    have dk0 : DK (PtR (upd F e0 (.lst []))) kvs es := dk.mono fun _ _ z => (kL kPt).mono X0.ff z
    revert X0 k0 hd0 fd0 dk0
    generalize upd F e0 (.lst []) = F1
    generalize upd H e0 (.lst []) = H1
    intro X0 k0 hd0 fd0 dk0
    have hdn : H1 d ≠ none := by rw [hd0]; simp
    refine ⟨d, .dK kvs, hd0, trivial, fun od => ⟨_, rfl, d, od, rfl, .inl ⟨kvs, upd_same, for_it walk_keys (fun i σ H' => ∃ F' v ps y, σ = [some (.int many), some (.ref d), some v, y, none] ∧ UL F1 H1 d od kvs es i F' H' v ps)
      ⟨F1, _, [], _, rfl, UL.start X0.fh fd0 hd0 dk0 k0⟩ (fun i σ H' _ ⟨_, _, _, _, _, U⟩ => U.hd) ?_ ?_⟩⟩⟩
    · rintro i x σ H2 _ hi ⟨F2, v, ps, y, rfl, U⟩ ⟨rfl, k, v', hk, rfl⟩
      obtain ⟨hv, st⟩ := U.step (P := P) (w := w) (K := K) hdn ef m6 hk (Q := fun v2 H3 => ∃ F3 v3 ps3 y3, [some (V.int many), some (.ref d), some v2, some (kV k), none] = [some (.int many), some (.ref d), some v3, y3, none] ∧ UL F1 H1 d od kvs es (i + 1) F3 H3 v3 ps3) fun F3 H3 v3 ps3 U3 => ⟨F3, v3, ps3, _, rfl, U3⟩
      refine ⟨_, rfl, _, rfl, _, rfl, d, _, rfl, .inl ⟨kvs, k, .inr ⟨od, U.hd⟩, rfl, hv.symm⟩, ?_⟩
      exact st
    rintro σ H2 ⟨F2, v, ps, y, rfl, U⟩
    refine ⟨U.hd, ?_⟩
    have al := U.all
    rw [show kvs.length = es.length from dk.len, List.take_length] at al
    have kv := U.kv
    have fd2 := U.fd' hdn
    have X3 := X0.trans U.X
    have hd3 : upd H2 d (.dK kvs) d = some (.dK kvs) := upd_same
    have dk3 : DK (PtR F2) kvs es := dk0.mono fun _ _ z => (kL kPt).mono U.X.ff z
    clear U X0 k0
    revert X3 hd3
    generalize upd H2 d (.dK kvs) = H3
    intro X3 hd3
    obtain ⟨a, xs, rfl, ha, pa⟩ := kv
    have lps := b18_len al.sort (al.box' ef)
    refine ⟨_, rfl, a, rfl, ⟨xs, SqL.of (X3.fh _ _ ha)⟩, fun D nD => ?_⟩
    have nDd : D ≠ d := fun e => by rw [e, hd3] at nD; cases nD
    generalize hφ : (fun q : Pt => decide (many / 2 + 1 ≤ cnt (es.map (·.rs)) q)) = φ
    refine it_by (walk_list (K := K) (a := a) (xs := xs)) (fun i H' => ∃ acc : List V, Ext M0 F2 H3 F2 H' ∧ H' D = some (.lst acc) ∧ Paired (kPt.is F2) acc ((ps.take i).filter φ))
      ⟨[], (Ext.refl X3.fh).tmp nD, upd_same, .nil⟩ (fun i H' _ ⟨_, X, _⟩ => SqL.of (X.fh _ _ ha)) ?_ ?_
    · rintro i x _ H4 hi ⟨acc, X4, hD4, hacc⟩ ⟨rfl, hx⟩
      obtain ⟨p, hp, hxp⟩ := pr_get pa hx
      have lv : acc.length ≤ 18 := by
        rw [pr_len hacc]
        have := List.length_filter_le φ (ps.take i)
        have := List.length_take_le' i ps
        omega
      have eT : (ps.take (i + 1)).filter φ = (ps.take i).filter φ ++ [p].filter φ := by
        rw [List.take_add_one, hp, ← List.filter_append]; rfl
      have hd4 := X4.hh _ _ hd3 id
      refine ⟨rfl, d, .dK kvs, hd4, trivial, fun od2 => ⟨_, rfl, d, od2, rfl, .inl ⟨kvs, upd_same, fun D2 nD2 => ?_⟩⟩⟩
      have D2d : D2 ≠ d := fun e => by rw [e, upd_same] at nD2; cases nD2
      have fh5 : Same F2 (upd H4 d (.frz od2 (.dK kvs))) := same_put X4.fh fd2
      refine it_by (walk_keys (d := d) (o := od2) (kvs := kvs)) (fun j H' => ∃ ns : List V, Ext M0 F2 (upd H4 d (.frz od2 (.dK kvs))) F2 H' ∧ H' D2 = some (.lst ns) ∧ (ns.length : Int) = cnt ((es.map (·.rs)).take j) p ∧ ns.length ≤ j)
        ⟨[], (Ext.refl fh5).tmp nD2, upd_same, rfl, Nat.le_refl _⟩ (fun j H' _ ⟨_, X, _⟩ => X.hh _ _ upd_same id) ?_ ?_
      · rintro j y _ H6 hj ⟨ns, X6, hD6, hc, hl⟩ ⟨rfl, k, v', hk, rfl⟩
        obtain ⟨e, he, rfl, ⟨b, us, rfl, hb, pb⟩, hv⟩ := dk3.at ef.nd hk
        have g := ef.good e (List.mem_of_getElem? he)
        refine ⟨rfl, _, rfl, _, rfl, _, rfl, d, _, rfl, .inl ⟨kvs, _, .inr ⟨od2, X6.hh _ _ upd_same id⟩, rfl, hv.symm⟩, dPt p, e.ps.map dPt, enc_pt.dp X6.fh hxp, .lst (SqL.of (X6.fh _ _ hb)) (dpAll enc_pt X6.fh pb), shaped_pt p, shaped_pts e.ps, ?_⟩
        rw [any_pts]
        have hc2 := cnt_next (sets := es.map (·.rs)) (i := j) (rs := e.rs) (by rw [List.getElem?_map, he]; rfl) p
        have lns : ns.length < sizeLine := by rw [sizeLine_eq]; have := dk.len; have := ef.len m6; omega
        by_cases m : p ∈ e.ps
        · rw [decide_eq_true m]
          refine ⟨_, rfl, _, rfl, ns, hD6, lns, ns ++ [_], X6.put (.inl nD2) (fh5.free nD2), upd_same, ?_, by rw [List.length_append]; simp; omega⟩
          rw [hc2, ind_pos ((g.rows.mem p).mpr m), ← hc, List.length_append]
          simp
        · rw [decide_eq_false m]
          refine ⟨_, rfl, ns, X6, hD6, ?_, by omega⟩
          rw [hc2, ind_neg (fun z => m ((g.rows.mem p).mp z)), hc]
          omega
      · rintro H6 ⟨ns, X6, hD6, hc, hl⟩
        rw [show kvs.length = (es.map (·.rs)).length by rw [List.length_map]; exact dk.len, List.take_length] at hc
        refine ⟨X6.hh _ _ upd_same id, ?_⟩
        have X7 := X6.under (d := d) (u := .dK kvs) (by rw [upd_same]; simp) fd2
        rw [show upd (upd H4 d (.frz od2 (.dK kvs))) d (.dK kvs) = H4 from funext fun b => by
          by_cases h : b = d
          · rw [h, upd_same, hd4]
          · rw [upd_ne h, upd_ne h]] at X7
        have hD27 : upd H6 d (.dK kvs) D2 = some (.lst ns) := by rw [upd_ne D2d]; exact hD6
        revert X7 hD27
        generalize upd H6 d (.dK kvs) = H7
        intro X7 hD27
        have ln : ns.length ≤ 6 := by have := dk.len; have := ef.len m6; omega
        refine ⟨_, ns.length, rfl, .inl ⟨ns, SqL.of hD27, rfl⟩, _, _, rfl, rfl, .inl (by decide), _, rfl, _, _, rfl, rfl, _, rfl, ?_⟩
        rw [hc]
        have eφ : φ p = decide (many / 2 + 1 ≤ cnt (es.map (·.rs)) p) := by rw [← hφ]
        have X8 := X4.trans X7
        have hD7 := X7.hh _ _ hD4 id
        by_cases g : many / 2 + 1 ≤ cnt (es.map (·.rs)) p
        · rw [decide_eq_true (show many < 2 * cnt (es.map (·.rs)) p by omega)]
          refine ⟨_, rfl, acc, hD7, by rw [sizeLine_eq]; omega, acc ++ [x], X8.put (.inl nD) (X3.fh.free nD), upd_same, ?_⟩
          rw [eT, List.filter_cons_of_pos (by rw [eφ]; exact decide_eq_true g)]
          exact pr_snoc hacc hxp
        · rw [decide_eq_false (show ¬ many < 2 * cnt (es.map (·.rs)) p by omega)]
          refine ⟨acc, X8, hD7, ?_⟩
          rw [eT, List.filter_cons_of_neg (by rw [eφ]; simp [g])]
          simpa using hacc
    · rintro H4 ⟨acc, X4, hD4, hacc⟩
      rw [pr_len pa, List.take_length] at hacc
      refine q F2 H4 D acc _ (X3.trans X4) (X3.free nD) (X3.fh.free nD) hD4 hacc ⟨al.sort.filter _, fun p => ?_, fun p hp => al.box' ef p (List.mem_filter.mp hp).1⟩
      rw [List.mem_filter, ← hφ, decide_eq_true_eq]
      refine ⟨fun z => z.2, fun z => ⟨?_, z⟩⟩
      obtain ⟨rs, hrs, hm⟩ := cnt_pos (p := p) (sets := es.map (·.rs)) (by omega)
      obtain ⟨e, he, rfl⟩ := List.mem_map.mp hrs
      exact (al.mem p).mpr ⟨e, he, ((ef.good e he).rows.mem p).mp hm⟩
end
end Rw
namespace Rw
open PySem PySem.Spec PyProof.Rows L2
def qDeed22 : Str := ("_law_deed" : Str) ++ ".<locals>." ++ "<lambda>"
def qLaw22 : Str := ("law" : Str) ++ ".<locals>." ++ "<lambda>"
/-! ### what the law keeps of a lead, and where -/
def ownL (many : Int) (a2 : Addr) (bg : Bool) (k2 : Addr) : List (Key × V) := [(.inr "many", .int many), (.inr "answers", .ref a2), (.inr "begun", .bl bg), (.inr "kept", .ref k2)]
section
variable (many : Int) (a2 : Addr) (bg : Bool) (k2 : Addr)
theorem ol_many : valV (ownL many a2 bg k2) (Sum.inr "many" : Key) = some (.int many) := by rfl
theorem ol_ans : valV (ownL many a2 bg k2) (Sum.inr "answers" : Key) = some (.ref a2) := by rfl
theorem ol_begun : valV (ownL many a2 bg k2) (Sum.inr "begun" : Key) = some (.bl bg) := by rfl
theorem ol_kept : valV (ownL many a2 bg k2) (Sum.inr "kept" : Key) = some (.ref k2) := by rfl
theorem ol_put (b : Bool) : putK (ownL many a2 bg k2) (Sum.inr "begun" : Key) (.bl b) = ownL many a2 b k2 := by rfl
end
structure OwnL (F H : Hp) (w a2 k2 : Addr) (many : Int) (an kp : List Ent) (bg : Bool) : Prop where
  hw : H w = some (.dK (ownL many a2 bg k2))
  fw : F w = none
  ha : ∃ kvs, H a2 = some (.dK kvs) ∧ DK (PtR F) kvs an
  fa : F a2 = none
  hk : ∃ kvs, H k2 = some (.dK kvs) ∧ DK (PtR F) kvs kp
  fk : F k2 = none
section
variable {F H F' H' : Hp} {w a2 k2 : Addr} {many : Int} {an kp : List Ent} {bg : Bool} {M : Addr → Prop}
theorem OwnL.xm (A : OwnL F H w a2 k2 many an kp bg) (X : XM M F H F' H') (h1 : ¬ M w) (h2 : ¬ M a2) (h3 : ¬ M k2) : OwnL F' H' w a2 k2 many an kp bg := by
  obtain ⟨k1, e1, d1⟩ := A.ha
  obtain ⟨k3, e3, d3⟩ := A.hk
  exact ⟨X.hh _ _ A.hw h1, by rw [X.nw _ _ A.hw fun xs z => by cases z]; exact A.fw, ⟨k1, X.hh _ _ e1 h2, d1.mono fun _ _ z => (kL kPt).mono X.ff z⟩, by rw [X.nw _ _ e1 fun xs z => by cases z]; exact A.fa,
    ⟨k3, X.hh _ _ e3 h3, d3.mono fun _ _ z => (kL kPt).mono X.ff z⟩, by rw [X.nw _ _ e3 fun xs z => by cases z]; exact A.fk⟩
end
structure Dl where
  many : Int
  an : List Ent
  kp : List Ent
  bg : Bool
structure FitD (x : Dl) : Prop where
  m2 : 2 ≤ x.many
  m6 : x.many ≤ 6
  an : EFit x.many x.an
  kp : EFit x.many x.kp
abbrev LeadP (C : Addr) (F H : Hp) (pl : Nat → Addr) (o : Nat) (x : Dl) : Prop := LeadAt C F H (pl o) (pl (o + 2)) (pl (o + 3)) x.many x.an x.kp x.bg
abbrev OwnP (F H : Hp) (pl : Nat → Addr) (o : Nat) (x : Dl) : Prop := OwnL F H (pl (o + 1)) (pl (o + 4)) (pl (o + 5)) x.many x.an x.kp x.bg
/-- two leads, each with its own; of the first the lead and its own may part -/
structure S2 (K : PySem.W.Frag) (C s : Addr) (ns : List Int) (pl : Nat → Addr) (F H : Hp) (o o' : Nat) (x u y : Dl) : Prop where
  inj : ∀ i j, i < 15 → j < 15 → pl i = pl j → i = j
  oo : o + o' = 12 ∧ (o = 3 ∨ o = 9)
  dice : DiceAt K F H (pl 0) s ns
  td : LamX.TabS H (pl 1) qDeed22
  fd : F (pl 1) = none
  tl : LamX.TabS H (pl 2) qLaw22
  fl : F (pl 2) = none
  lead : LeadP C F H pl o x
  own : OwnP F H pl o u
  ly : LeadP C F H pl o' y
  oy : OwnP F H pl o' y
section
variable {K : PySem.W.Frag} {C s : Addr} {ns : List Int} {pl : Nat → Addr} {F H F' H' : Hp} {o o' : Nat} {x u y : Dl} {M : Addr → Prop}
theorem S2.same (S : S2 K C s ns pl F H o o' x u y) : Same F H := S.dice.fh
theorem S2.swap (S : S2 K C s ns pl F H o o' x x y) : S2 K C s ns pl F H o' o y y x := ⟨S.inj, by have := S.oo; omega, S.dice, S.td, S.fd, S.tl, S.fl, S.ly, S.oy, S.lead, S.own⟩
theorem TabS.xm2 {P : Addr} {q : Str} (T : LamX.TabS H P q) (X : XM M F H F' H') (h : ¬ M P) (hc : ∀ c o, H c = some o → M c → ∀ φ, o ≠ .ext φ) : LamX.TabS H' P q := by
  obtain ⟨pp, h1, h2, h3⟩ := T
  refine ⟨pp, X.hh _ _ h1 h, h2, fun pos cv hcv => ?_⟩
  obtain ⟨c, e1, e2⟩ := h3 pos cv hcv
  refine ⟨c, e1, X.hh _ _ e2 fun m => ?_⟩
  exact hc c _ e2 m _ rfl
/-- what stands elsewhere stays -/
structure Kept (K : PySem.W.Frag) (C s : Addr) (ns : List Int) (pl : Nat → Addr) (F H : Hp) (j o o' : Nat) (x u y : Dl) : Prop where
  dice : j ≠ 0 → DiceAt K F H (pl 0) s ns
  td : j ≠ 1 → LamX.TabS H (pl 1) qDeed22
  fd : F (pl 1) = none
  tl : j ≠ 2 → LamX.TabS H (pl 2) qLaw22
  fl : F (pl 2) = none
  lead : j ≠ o → j ≠ o + 2 → j ≠ o + 3 → LeadP C F H pl o x
  own : j ≠ o + 1 → j ≠ o + 4 → j ≠ o + 5 → OwnP F H pl o u
  ly : j ≠ o' → j ≠ o' + 2 → j ≠ o' + 3 → LeadP C F H pl o' y
  oy : j ≠ o' + 1 → j ≠ o' + 4 → j ≠ o' + 5 → OwnP F H pl o' y
theorem S2.keep (S : S2 K C s ns pl F H o o' x u y) {j : Nat} (hj : j < 15) (X : XM (· = pl j) F H F' H') (he : ∀ φ, H (pl j) ≠ some (.ext φ)) : Kept K C s ns pl F' H' j o o' x u y := by
  have n : ∀ i, i < 15 → j ≠ i → ¬ (pl i = pl j) := fun i hi ne e => ne (S.inj i j hi hj e).symm
  have oo := S.oo
  have hc : ∀ c o, H c = some o → c = pl j → ∀ φ, o ≠ .ext φ := fun c o h e φ z => by
    subst e; subst z; exact he _ h
  obtain ⟨p1, h1, _⟩ := S.td
  obtain ⟨p2, h2, _⟩ := S.tl
  refine ⟨fun z => S.dice.xm X (n 0 (by omega) z), fun z => TabS.xm2 S.td X (n 1 (by omega) z) hc, by rw [X.nw _ _ h1 fun xs z => by cases z]; exact S.fd, fun z => TabS.xm2 S.tl X (n 2 (by omega) z) hc, by rw [X.nw _ _ h2 fun xs z => by cases z]; exact S.fl,
    fun a b c => S.lead.xm X (n _ (by omega) a) (n _ (by omega) b) (n _ (by omega) c), fun a b c => S.own.xm X (n _ (by omega) a) (n _ (by omega) b) (n _ (by omega) c),
    fun a b c => S.ly.xm X (n _ (by omega) a) (n _ (by omega) b) (n _ (by omega) c), fun a b c => S.oy.xm X (n _ (by omega) a) (n _ (by omega) b) (n _ (by omega) c)⟩
theorem S2.quiet (S : S2 K C s ns pl F H o o' x u y) (X : XM M0 F H F' H') : S2 K C s ns pl F' H' o o' x u y := by
  obtain ⟨p1, h1, _⟩ := S.td
  obtain ⟨p2, h2, _⟩ := S.tl
  exact ⟨S.inj, S.oo, S.dice.xm X id, TabS.xm2 S.td X id fun _ _ _ m => m.elim, by rw [X.nw _ _ h1 fun xs z => by cases z]; exact S.fd, TabS.xm2 S.tl X id fun _ _ _ m => m.elim, by rw [X.nw _ _ h2 fun xs z => by cases z]; exact S.fl,
    S.lead.xm X id id id, S.own.xm X id id id, S.ly.xm X id id id, S.oy.xm X id id id⟩
theorem S2.drawn (S : S2 K C s ns pl F H o o' x u y) (X : Ext (· = pl 0) F H F' H') (D : DiceAt K F' H' (pl 0) s ns) : S2 K C s ns pl F' H' o o' x u y := by
  obtain ⟨i, m, r, hd, _⟩ := S.dice.ex
  have Z := S.keep (j := 0) (by decide) (.of X) fun φ e => by rw [hd] at e; cases e
  have oo := S.oo
  exact ⟨S.inj, oo, D, Z.td (by decide), Z.fd, Z.tl (by decide), Z.fl, Z.lead (by omega) (by omega) (by omega), Z.own (by omega) (by omega) (by omega), Z.ly (by omega) (by omega) (by omega), Z.oy (by omega) (by omega) (by omega)⟩
theorem S2.growD {H1 : Hp} (S : S2 K C s ns pl F H o o' x u y) (g : Grow (pl 1) H H1) (T : LamX.TabS H1 (pl 1) qDeed22) : S2 K C s ns pl F H1 o o' x u y := by
  obtain ⟨p1, h1, _⟩ := S.td
  have Z := S.keep (j := 1) (by decide) (.of (g.ext S.same S.fd)) fun φ e => by rw [h1] at e; cases e
  have oo := S.oo
  exact ⟨S.inj, oo, Z.dice (by decide), T, Z.fd, Z.tl (by decide), Z.fl, Z.lead (by omega) (by omega) (by omega), Z.own (by omega) (by omega) (by omega), Z.ly (by omega) (by omega) (by omega), Z.oy (by omega) (by omega) (by omega)⟩
theorem S2.growL {H1 : Hp} (S : S2 K C s ns pl F H o o' x u y) (g : Grow (pl 2) H H1) (T : LamX.TabS H1 (pl 2) qLaw22) : S2 K C s ns pl F H1 o o' x u y := by
  obtain ⟨p1, h1, _⟩ := S.tl
  have Z := S.keep (j := 2) (by decide) (.of (g.ext S.same S.fl)) fun φ e => by rw [h1] at e; cases e
  have oo := S.oo
  exact ⟨S.inj, oo, Z.dice (by decide), Z.td (by decide), Z.fd, T, Z.fl, Z.lead (by omega) (by omega) (by omega), Z.own (by omega) (by omega) (by omega), Z.ly (by omega) (by omega) (by omega), Z.oy (by omega) (by omega) (by omega)⟩
theorem S2.heard {x' : Dl} (S : S2 K C s ns pl F H o o' x u y) (X : Ext (· = pl (o + 2)) F H F' H') (A : LeadP C F' H' pl o x') : S2 K C s ns pl F' H' o o' x' u y := by
  have oo := S.oo
  obtain ⟨kv, h1, _⟩ := S.lead.ha
  have Z := S.keep (j := o + 2) (by omega) (.of X) fun φ e => by rw [h1] at e; cases e
  exact ⟨S.inj, oo, Z.dice (by omega), Z.td (by omega), Z.fd, Z.tl (by omega), Z.fl, A, Z.own (by omega) (by omega) (by omega), Z.ly (by omega) (by omega) (by omega), Z.oy (by omega) (by omega) (by omega)⟩
theorem S2.begun {x' : Dl} (S : S2 K C s ns pl F H o o' x u y) (X : Ext (· = pl o) F H F' H') (A : LeadP C F' H' pl o x') : S2 K C s ns pl F' H' o o' x' u y := by
  have oo := S.oo
  obtain ⟨kv, h1⟩ := S.lead.ob
  have Z := S.keep (j := o) (by omega) (.of X) fun φ e => by rw [h1] at e; cases e
  exact ⟨S.inj, oo, Z.dice (by omega), Z.td (by omega), Z.fd, Z.tl (by omega), Z.fl, A, Z.own (by omega) (by omega) (by omega), Z.ly (by omega) (by omega) (by omega), Z.oy (by omega) (by omega) (by omega)⟩
theorem S2.kept {x' : Dl} (S : S2 K C s ns pl F H o o' x u y) (X : Ext (· = pl (o + 3)) F H F' H') (A : LeadP C F' H' pl o x') : S2 K C s ns pl F' H' o o' x' u y := by
  have oo := S.oo
  obtain ⟨kv, h1, _⟩ := S.lead.ht
  have Z := S.keep (j := o + 3) (by omega) (.of X) fun φ e => by rw [h1] at e; cases e
  exact ⟨S.inj, oo, Z.dice (by omega), Z.td (by omega), Z.fd, Z.tl (by omega), Z.fl, A, Z.own (by omega) (by omega) (by omega), Z.ly (by omega) (by omega) (by omega), Z.oy (by omega) (by omega) (by omega)⟩
theorem S2.putA {kvs : List (Key × V)} {an : List Ent} (S : S2 K C s ns pl F H o o' x u y) (d : DK (PtR F) kvs an) : S2 K C s ns pl F (upd H (pl (o + 4)) (.dK kvs)) o o' x ⟨u.many, an, u.kp, u.bg⟩ y := by
  have oo := S.oo
  obtain ⟨kv, h1, _⟩ := S.own.ha
  obtain ⟨k2, h2, d2⟩ := S.own.hk
  have Z := S.keep (j := o + 4) (by omega) ((XM.refl S.same).put (o := .dK kvs) (.inr rfl) S.own.fa) fun φ e => by rw [h1] at e; cases e
  have n : ∀ i, i < 15 → o + 4 ≠ i → ¬ (pl i = pl (o + 4)) := fun i hi ne e => ne (S.inj i _ hi (by omega) e).symm
  exact ⟨S.inj, oo, Z.dice (by omega), Z.td (by omega), Z.fd, Z.tl (by omega), Z.fl, Z.lead (by omega) (by omega) (by omega), ⟨by rw [upd_ne (n _ (by omega) (by omega))]; exact S.own.hw, S.own.fw, ⟨kvs, upd_same, d⟩, S.own.fa, ⟨k2, by rw [upd_ne (n _ (by omega) (by omega))]; exact h2, d2⟩, S.own.fk⟩, Z.ly (by omega) (by omega) (by omega), Z.oy (by omega) (by omega) (by omega)⟩
theorem S2.putK {kvs : List (Key × V)} {kp : List Ent} (S : S2 K C s ns pl F H o o' x u y) (d : DK (PtR F) kvs kp) : S2 K C s ns pl F (upd H (pl (o + 5)) (.dK kvs)) o o' x ⟨u.many, u.an, kp, u.bg⟩ y := by
  have oo := S.oo
  obtain ⟨kv, h1, d1⟩ := S.own.ha
  obtain ⟨k2, h2, d2⟩ := S.own.hk
  have Z := S.keep (j := o + 5) (by omega) ((XM.refl S.same).put (o := .dK kvs) (.inr rfl) S.own.fk) fun φ e => by rw [h2] at e; cases e
  have n : ∀ i, i < 15 → o + 5 ≠ i → ¬ (pl i = pl (o + 5)) := fun i hi ne e => ne (S.inj i _ hi (by omega) e).symm
  exact ⟨S.inj, oo, Z.dice (by omega), Z.td (by omega), Z.fd, Z.tl (by omega), Z.fl, Z.lead (by omega) (by omega) (by omega), ⟨by rw [upd_ne (n _ (by omega) (by omega))]; exact S.own.hw, S.own.fw, ⟨kv, by rw [upd_ne (n _ (by omega) (by omega))]; exact h1, d1⟩, S.own.fa, ⟨kvs, upd_same, d⟩, S.own.fk⟩, Z.ly (by omega) (by omega) (by omega), Z.oy (by omega) (by omega) (by omega)⟩
theorem S2.putB (S : S2 K C s ns pl F H o o' x u y) (b : Bool) : S2 K C s ns pl F (upd H (pl (o + 1)) (.dK (ownL u.many (pl (o + 4)) b (pl (o + 5))))) o o' x ⟨u.many, u.an, u.kp, b⟩ y := by
  have oo := S.oo
  obtain ⟨kv, h1, d1⟩ := S.own.ha
  obtain ⟨k2, h2, d2⟩ := S.own.hk
  have Z := S.keep (j := o + 1) (by omega) ((XM.refl S.same).put (o := .dK (ownL u.many (pl (o + 4)) b (pl (o + 5)))) (.inr rfl) S.own.fw) fun φ e => by rw [S.own.hw] at e; cases e
  have n : ∀ i, i < 15 → o + 1 ≠ i → ¬ (pl i = pl (o + 1)) := fun i hi ne e => ne (S.inj i _ hi (by omega) e).symm
  exact ⟨S.inj, oo, Z.dice (by omega), Z.td (by omega), Z.fd, Z.tl (by omega), Z.fl, Z.lead (by omega) (by omega) (by omega), ⟨upd_same, S.own.fw, ⟨kv, by rw [upd_ne (n _ (by omega) (by omega))]; exact h1, d1⟩, S.own.fa, ⟨k2, by rw [upd_ne (n _ (by omega) (by omega))]; exact h2, d2⟩, S.own.fk⟩, Z.ly (by omega) (by omega) (by omega), Z.oy (by omega) (by omega) (by omega)⟩
/-- a new list that never changes from now on -/
theorem S2.fz {b : Addr} {vs : List V} (S : S2 K C s ns pl F H o o' x u y) (n : pl 0 ≠ b) (f : F b = none) (hb : H b = some (.lst vs)) : S2 K C s ns pl (upd F b (.lst vs)) H o o' x u y := by
  have X : ∀ {c : Addr} {o : HO}, H c = some o → (∀ vs, o ≠ .lst vs) → upd F b (.lst vs) c = F c := fun {c o} h nl => upd_ne fun e => by
    rw [e, hb] at h; exact nl _ (Option.some.inj h).symm
  have m := same_upd (o := .lst vs) f
  obtain ⟨p1, h1, _⟩ := S.td
  obtain ⟨p2, h2, _⟩ := S.tl
  have L : ∀ {o : Nat} {x : Dl}, LeadP C F H pl o x → LeadP C (upd F b (.lst vs)) H pl o x := fun {o x} A => by
    obtain ⟨dx, ob⟩ := A.ob
    obtain ⟨k1, a1, d1⟩ := A.ha
    obtain ⟨k2, a2, d2⟩ := A.ht
    exact ⟨⟨dx, ob⟩, by rw [X ob fun _ z => by cases z]; exact A.fp, ⟨k1, a1, d1.mono fun _ _ z => (kL kRow).mono m z⟩, by rw [X a1 fun _ z => by cases z]; exact A.fa, ⟨k2, a2, d2.mono fun _ _ z => (kL kRow).mono m z⟩, by rw [X a2 fun _ z => by cases z]; exact A.ft, A.ne⟩
  have O : ∀ {o : Nat} {x : Dl}, OwnP F H pl o x → OwnP (upd F b (.lst vs)) H pl o x := fun {o x} A => by
    obtain ⟨k1, a1, d1⟩ := A.ha
    obtain ⟨k2, a2, d2⟩ := A.hk
    exact ⟨A.hw, by rw [X A.hw fun _ z => by cases z]; exact A.fw, ⟨k1, a1, d1.mono fun _ _ z => (kL kPt).mono m z⟩, by rw [X a1 fun _ z => by cases z]; exact A.fa, ⟨k2, a2, d2.mono fun _ _ z => (kL kPt).mono m z⟩, by rw [X a2 fun _ z => by cases z]; exact A.fk⟩
  exact ⟨S.inj, S.oo, S.dice.fz n f hb, S.td, by rw [X h1 fun _ z => by cases z]; exact S.fd, S.tl, by rw [X h2 fun _ z => by cases z]; exact S.fl, L S.lead, O S.own, L S.ly, O S.oy⟩
/-- the asker spoils a list told -/
theorem S2.spoil {a : Addr} {vs ys : List V} (S : S2 K C s ns pl F H o o' x u y) (n : pl 0 ≠ a) (f : F a = none) (ha : H a = some (.lst vs)) : S2 K C s ns pl F (upd H a (.lst ys)) o o' x u y := by
  have X := (XM.refl (M := (· = a)) S.same).put (p := a) (o := .lst ys) (.inr rfl) f
  have h : ∀ {c : Addr} {o : HO}, H c = some o → (∀ vs, o ≠ .lst vs) → ¬ (c = a) := fun {c o} h nl e => by
    rw [e, ha] at h; exact nl _ (Option.some.inj h).symm
  obtain ⟨p1, h1, _⟩ := S.td
  obtain ⟨p2, h2, _⟩ := S.tl
  have hc : ∀ c o, H c = some o → c = a → ∀ φ, o ≠ .ext φ := fun c o h e φ z => by
    subst e; subst z; rw [ha] at h; cases h
  have L : ∀ {o : Nat} {x : Dl}, LeadP C F H pl o x → LeadP C F (upd H a (.lst ys)) pl o x := fun {o x} A => by
    obtain ⟨dx, ob⟩ := A.ob
    obtain ⟨k1, a1, d1⟩ := A.ha
    obtain ⟨k2, a2, d2⟩ := A.ht
    exact LeadAt.xm A X (h ob fun _ z => by cases z) (h a1 fun _ z => by cases z) (h a2 fun _ z => by cases z)
  have O : ∀ {o : Nat} {x : Dl}, OwnP F H pl o x → OwnP F (upd H a (.lst ys)) pl o x := fun {o x} A => by
    obtain ⟨k1, a1, d1⟩ := A.ha
    obtain ⟨k2, a2, d2⟩ := A.hk
    exact OwnL.xm A X (h A.hw fun _ z => by cases z) (h a1 fun _ z => by cases z) (h a2 fun _ z => by cases z)
  exact ⟨S.inj, S.oo, S.dice.xm X n, TabS.xm2 S.td X (h h1 fun _ z => by cases z) hc, S.fd, TabS.xm2 S.tl X (h h2 fun _ z => by cases z) hc, S.fl, L S.lead, O S.own, L S.ly, O S.oy⟩
end
end Rw
namespace Rw
open PySem PySem.Spec PyProof.Rows L2
theorem canon_len {rs : List Row} {ps : List Pt} (c : Canon rs) (h : ∀ p, mem rs p → p ∈ ps) : rs.length ≤ ps.length := by
  have nd : (rs.map fun r => ((r.1, r.2.1) : Pt)).Nodup := by
    refine List.pairwise_map.mpr (c.ord.imp_of_mem fun {a b} ha hb z => ?_)
    show (a.1, a.2.1) ≠ (b.1, b.2.1)
    intro e
    have e1 : a.1 = b.1 := (Prod.mk.inj e).1
    have e2 : a.2.1 = b.2.1 := (Prod.mk.inj e).2
    have o := c.ok a ha
    unfold before at z
    omega
  have := nodup_sub _ ps nd fun x hx => by
    obtain ⟨r, hr, rfl⟩ := List.mem_map.mp hx
    exact h _ (c.first hr)
  rwa [List.length_map] at this
theorem rowsOf_mk {ps : List Pt} {rs : List Row} (c : Canon rs) (h : ∀ p, mem rs p ↔ p ∈ ps) : RowsOf ps rs := ⟨c, h, canon_len c fun p => (h p).mp⟩
section
variable {R : V → Ent → Prop} {kvs : List (Key × V)} {s : Int} {r1 r2 : List Row} {ps : List Pt}
theorem put_any (es : List Ent) : ∀ {e : Ent}, putE es e = if (es.any fun x => decide (x.s = e.s)) = true then es.map (fun x => if x.s = e.s then e else x) else es ++ [e] := fun {_} => rfl
/-- of an own entry the rows don't count -/
theorem DK.re {F : Hp} {es : List Ent} (d : DK (PtR F) kvs (putE es ⟨s, r1, ps⟩)) : DK (PtR F) kvs (putE es ⟨s, r2, ps⟩) := by
  unfold putE at d ⊢
  by_cases c : (es.any fun x => decide (x.s = s)) = true
  · rw [if_pos c] at d ⊢
    clear c
    induction es generalizing kvs with
    | nil => cases d; exact .nil
    | cons x es ih =>
      rw [List.map_cons] at d ⊢
      cases d with
      | cons r t =>
        refine .cons ?_ (ih t)
        by_cases h : x.s = s
        · rw [if_pos h] at r ⊢; exact r
        · rw [if_neg h] at r ⊢; exact r
  · rw [if_neg c] at d ⊢
    clear c
    induction es generalizing kvs with
    | nil => cases d with | cons r t => cases t; exact .cons r .nil
    | cons x es ih => cases d with | cons r t => exact .cons r (ih t)
end
section
variable {K : PySem.W.Frag} {C s : Addr} {ns : List Int} {pl : Nat → Addr} {F H F' H' : Hp} {o o' : Nat} {x u y : Dl}
theorem S2.reA {m : Int} {es kp : List Ent} {b : Bool} {t : Int} {r1 r2 : List Row} {ps : List Pt} (S : S2 K C s ns pl F H o o' x ⟨m, putE es ⟨t, r1, ps⟩, kp, b⟩ y) : S2 K C s ns pl F H o o' x ⟨m, putE es ⟨t, r2, ps⟩, kp, b⟩ y := by
  obtain ⟨k1, h1, d1⟩ := S.own.ha
  exact ⟨S.inj, S.oo, S.dice, S.td, S.fd, S.tl, S.fl, S.lead, ⟨S.own.hw, S.own.fw, ⟨k1, h1, d1.re⟩, S.own.fa, S.own.hk, S.own.fk⟩, S.ly, S.oy⟩
theorem S2.reK {m : Int} {es an : List Ent} {b : Bool} {t : Int} {r1 r2 : List Row} {ps : List Pt} (S : S2 K C s ns pl F H o o' x ⟨m, an, putE es ⟨t, r1, ps⟩, b⟩ y) : S2 K C s ns pl F H o o' x ⟨m, an, putE es ⟨t, r2, ps⟩, b⟩ y := by
  obtain ⟨k1, h1, d1⟩ := S.own.hk
  exact ⟨S.inj, S.oo, S.dice, S.td, S.fd, S.tl, S.fl, S.lead, ⟨S.own.hw, S.own.fw, S.own.ha, S.own.fa, ⟨k1, h1, d1.re⟩, S.own.fk⟩, S.ly, S.oy⟩
end
theorem cnt_one {p : Pt} {rs : List Row} : ∀ {sets : List (List Row)}, rs ∈ sets → mem rs p → 1 ≤ cnt sets p
  | [], h, _ => absurd h (by simp)
  | q :: sets, h, m => by
    have e : cnt (q :: sets) p = ind (mem q p) + cnt sets p := rfl
    rw [e]
    have := cnt_nn p sets
    rcases List.mem_cons.mp h with z | z
    · rw [← z, ind_pos m]; omega
    · have := cnt_one z m
      rcases ind_or (mem q p) with ⟨_, z⟩ | ⟨_, z⟩ <;> rw [z] <;> omega
theorem AllOf.cnt {many : Int} {es : List Ent} {ps : List Pt} (a : AllOf es ps) (f : EFit many es) (q : Pt) : q ∈ ps ↔ 1 ≤ Rw.cnt (es.map (·.rs)) q := by
  rw [a.mem q]
  constructor
  · rintro ⟨e, he, h⟩
    exact cnt_one (List.mem_map.mpr ⟨e, he, rfl⟩) (((f.good e he).rows.mem q).mpr h)
  · intro h
    obtain ⟨rs, hrs, hm⟩ := cnt_pos h
    obtain ⟨e, he, rfl⟩ := List.mem_map.mp hrs
    exact ⟨e, he, ((f.good e he).rows.mem q).mp hm⟩
theorem or_var {c b : Bool} {f : V → Hp → Prop} {H : Hp} {A : Prop} (h : f (.bl (c || b)) H) (k : f (.bl b) H → A) : if c = true then f (.bl true) H else A := by
  cases c
  · rw [if_neg (by simp)]; exact k h
  · rw [if_pos rfl]; exact h
theorem twin_non {H : Hp} {n : Nat} : Twin H (n + 1) .non .non := .inl (.inr (.inr (.inr ⟨rfl, rfl⟩)))
theorem eqv_nil (xs : List Pt) : PyData.eqv (dL dPt xs) (dL dPt []) = decide (xs = []) := by
  cases xs with
  | nil => simp [dL, PyData.eqv, PyData.eqvAll]
  | cons x xs => simp [dL, PyData.eqv, PyData.eqvAll]
theorem drawn6_ok {rows : List Row} (h : ∀ r ∈ rows, Drawn 3 6 r) : ∀ r ∈ rows, RowOk r := fun r hr => by
  obtain ⟨a, b, c, e, f⟩ := h r hr
  have eL : LIM = 1000000000000 := rfl
  exact ⟨a, by omega, c, e, by omega⟩
theorem drawn6_small {rows : List Row} (h : ∀ r ∈ rows, Drawn 3 6 r) (l : rows.length ≤ 250) : Small rows := ⟨l, fun r hr => by
  obtain ⟨a, b, c, e, f⟩ := h r hr
  exact ⟨c, e, by omega⟩⟩
theorem drawn6_bx {rows : List Row} (h : ∀ r ∈ rows, Drawn 3 6 r) {q : Pt} (m : mem rows q) : B18 q := by
  obtain ⟨r, hr, i1, i2, i3⟩ := m
  obtain ⟨a, b, c, e, f⟩ := h r hr
  unfold B18
  omega
/-- rows whose names are all in the box are drawn ones -/
theorem drawn6_of {ps : List Pt} {rs : List Row} (R : RowsOf ps rs) (b : ∀ q ∈ ps, B18 q) : ∀ r ∈ rs, Drawn 3 6 r := fun r hr => by
  have h1 := b _ ((R.mem _).mp (R.can.first hr))
  have h2 := b _ ((R.mem _).mp (R.can.last hr))
  have h3 := R.can.ok r hr
  unfold B18 at h1 h2
  unfold Drawn
  simp only at h1 h2
  omega
theorem bad18 {rows : List Row} {b : Row} (h : ∀ r ∈ rows, Drawn 3 6 r) (hb : ¬ RowOk b) : badAt (rows ++ [b]) = some rows.length := by
  refine badAt_some (r := b) (fun j s hj hs => ?_) (by rw [List.getElem?_append_right (Nat.le_refl _), Nat.sub_self]; rfl) hb
  rw [List.getElem?_append_left hj] at hs
  exact drawn6_ok h s (List.mem_of_getElem? hs)
end Rw
namespace Rw
open PySem PySem.Spec PyProof.Rows L2
/-- a def whose code object stands at c -/
structure FunC (K : PySem.W.Frag) (x qual : Str) (st : Stmt) (f c : Addr) (fd : FuncData) : Prop where
  ex : ∃ (oc : Value) (od : Option Addr) (kV doc pm : Value) (an : Option Addr) (ct : Value) (osl : Array (Option Value)),
    fd = PySem.W.fnOf x qual (defArgs st) (defBody st) (defScope st) .none kV doc pm an (.ref c) ct ∧ K.lookup f = some ⟨oc, od, .func fd, osl⟩ ∧ PySem.W.codeIn K (.ref c) qual = true
theorem FunC.ok {P : Program} {w : World} {K : PySem.W.Frag} {mg : Str → Option Value} {base : Heap} {x qual : Str} {st : Stmt} {f c : Addr} {fd : FuncData} {N ps : List Str} {k : Nat} {sp : Sp} (F : FunC K x qual st f c fd) (S : FnScope N ps (defScope st)) (len : ∀ vs H Q E, sp vs H Q E → vs.length = ps.length)
    (walk : ∀ (A : Around) (outer : List Env) (s : Shared) (H : Hp) (vs : List V) (Q : VK) (E : XK), Room k (A.deeper (PyProof.Rows.envOfC qual (defScope st) s.heap.objs.size f (.ref c))) → sp vs H Q E →
      ∃ t, PSs (cxOf CX0 P w K mg base N qual (defScope st) f (.ref c) A outer s H E).nox (defBody st) t ∧ t { nx := fun _ H' => Q .non H', rt := Q } (start N vs) H) : FnOk P w K mg base CX0 (k + 1) f fd ps sp := by
  obtain ⟨oc, od, kV, doc, pm, an, ct, osl, rfl, lk, hcd⟩ := F.ex
  refine fn_of lk hcd S len fun A outer s H vs Q E hr h => ?_
  obtain ⟨t, p, q⟩ := walk A outer s H vs Q E hr h
  exact ⟨t, p.nox, q⟩
end Rw
set_option maxHeartbeats 4000000
namespace Rw
open PySem PySem.Spec PyProof.Rows L2
abbrev N22 : List Str := ["_law_d", "_law_lead", "_law_own", "_law_many", "_law_kind", "_law_must", "_law_one", "_law_good", "_law_odd", "_law_rows_here", "_law_seat", "_law_name"]
structure Deps22 (P : Program) (w : World) (K : PySem.W.Frag) (mg : Str → Option Value) (base : Heap) (C : Addr) : Prop where
  next : Cal P w K mg base 1 "_law_next" ["_law_dice_here", "_law_many"] (spNext K)
  rows : Cal P w K mg base 2 "_law_rows" ["_law_d", "_law_houses", "_law_far", "_law_most"] (spRows K)
  names : Cal P w K mg base 1 "_law_names" ["_law_rows_here"] spNames
  told : Cal P w K mg base 1 "_law_told_rows" ["_law_names_here"] spTold
  like : Cal P w K mg base 5 "_law_like" ["_law_found", "_law_due"] (spLike 4)
  heard : CalMX P w K mg base C 6 "heard" ["self", "seat", "rows"] (spHeard K C)
  begin : CalMX P w K mg base C 6 "begin" ["self", "rows"] (spBegin K C)
  kept : CalMX P w K mg base C 6 "kept" ["self", "seat", "rows"] (spLKept2 K C)
def spDeed22 (K : PySem.W.Frag) (C Pd : Addr) : Sp := fun vs H Q _ => ∃ (F : Hp) (pl : Nat → Addr) (s : Addr) (ns : List Int) (o o' : Nat) (x y : Dl), vs = [.ref (pl 0), .ref (pl o), .ref (pl (o + 1))] ∧ pl 1 = Pd ∧ S2 K C s ns pl F H o o' x x y ∧ FitD x ∧
  ∀ (F' H' : Hp) (x' : Dl) (t : Addr) (a b : V), S2 K C s ns pl F' H' o o' x' x' y → FitD x' → Same F F' → H' t = some (.tup [a, b]) → Twin H' 3 a b → Q (.ref t) H'
section
variable {P : Program} {w : World} {K : PySem.W.Frag} {mg : Str → Option Value} {base : Heap} {C : Addr}
theorem ok_law_deed {f c Pd : Addr} {fd : FuncData} {ft : Addr} {fdt : FuncData} (F0 : FunC K "_law_deed" "_law_deed" s_law_deed f c fd) (TBd : LamX.TabB base mg c Pd) (T : TxQ K mg C) (TU : TxU mg) (TC : ToldC K mg) (Ft : Fun K "_law_told" "_law_told" s_law_told ft fdt) (gt : mg "_law_told" = some (.ref ft)) (D : Deps22 P w K mg base C) :
    FnOk P w K mg base CX0 9 f fd ["_law_d", "_law_lead", "_law_own"] (spDeed22 K C Pd) := by
  obtain ⟨fN, fdN, GN, gN, kpN, bN⟩ := D.next
  obtain ⟨fR, fdR, GR, gR, kpR, bR⟩ := D.rows
  obtain ⟨fM, fdM, GM, gM, kpM, bM⟩ := D.names
  obtain ⟨fT, fdT, GT, gT, kpT, bT⟩ := D.told
  obtain ⟨fL, fdL, GL, gL, kpL, bL⟩ := D.like
  obtain ⟨fH, fdH, GH, mH, bH⟩ := D.heard
  obtain ⟨fB, fdB, GB, mB, bB⟩ := D.begin
  obtain ⟨fK, fdK, GK, mK, bK⟩ := D.kept
  refine F0.ok sc_law_deed (fun vs H Q E h => ?_) (fun A outer s0 H vs Q E hr h => ?_)
  · obtain ⟨F, pl, s, ns, o, o', x, y, rfl, _⟩ := h
    rfl
  · obtain ⟨F, pl, s, ns, o, o', x, y, rfl, rfl, S, ft, q⟩ := h
    have hr1 : Room 1 _ := hr.mono (by decide)
    have hr2 : Room 2 _ := hr.mono (by decide)
    have hr5 : Room 5 _ := hr.mono (by decide)
    have hu := hu_of hr
    have hu5 : (A.deeper (PyProof.Rows.envOfC "_law_deed" (defScope s_law_deed) s0.heap.objs.size f (.ref c))).units + 65 < cLine := by have := hr.un; omega
    refine ⟨_, (pss_cons (ps_set (i := 3) sc_law_deed.nd rfl (.inl rfl) (pe_dget hu (pv 2) pe_str (fun _ _ => rfl)))
      (pss_cons (ps_asg (pe_tup (pa_cons (pe_call GN hr1 (by rfl) gN kpN bN .nil pass0 (pa_cons (pv 0) (pa_cons (pv 3) pa_nil))) (pa_cons (pe_call GR hr2 (by rfl) gR kpR bR .nil pass0 (pa_cons (pv 0) (pa_cons pe_int (pa_cons pe_int (pa_cons pe_int pa_nil))))) pa_nil))) (pg_tup (by rfl) (pgs_cons (pg_name (i := 10) sc_law_deed.nd rfl (.inr rfl)) (pgs_cons (pg_name (i := 9) sc_law_deed.nd rfl (.inr rfl)) pgs_nil))))
      (pss_cons (ps_set (i := 4) sc_law_deed.nd rfl (.inl rfl) (pe_call GN hr1 (by rfl) gN kpN bN .nil pass0 (pa_cons (pv 0) (pa_cons pe_int pa_nil))))
      (pss_cons (ps_if (pt_cmpR op_lt (pv 4) pe_int (nomark _)) (pss_cons (ps_if (pt_not (pt_val (pe_dget hu (pv 2) pe_str (fun _ _ => rfl)))) (pss_one (ps_dput hu (pe_dget hu (pv 2) pe_str (fun _ _ => rfl)) (pv 10) (pe_call GM hr1 (by rfl) gM kpM bM .nil pass0 (pa_cons (pv 9) pa_nil)) rfl)) pss_nil)
      (pss_one (ps_ret (pe_tup (pa_cons (pe_told1 (k := 6) .no TC Ft (by rfl) gt hr TBd rfl (by kernel_rfl) ⟨rfl, rfl⟩ (fun _ _ _ _ _ _ => rfl) fun E A outer s H f c' hr6 =>
        pe_meth (pv 1) T.cl mH GH hr6 bH .nil (passes_call (E := E) (takes_of rfl rfl rfl rfl) fun _ _ _ _ h => h) (pa_cons (pv 10) (pa_cons (pv 9) pa_nil))) (pa_cons pe_non pa_nil)))))) pss_nil)
      (pss_cons (ps_set (i := 5) sc_law_deed.nd rfl (.inl rfl) (pe_lst pa_nil))
      (pss_cons (ps_lock (ps_for PassesOwn.never rfl (pi_keys (pe_dget hu (pv 2) pe_str (fun _ _ => rfl))) (pg_name (i := 6) sc_law_deed.nd rfl (.inl rfl))
      (pss_one (ps_set (i := 5) sc_law_deed.nd rfl (.inl rfl) (pe_callB (cr_sortBig (by rfl)) (by rfl) TU.sorted (by decide +kernel) (pa_cons (pe_callTy (cr_setBig (by rfl) hr.units) (by rfl) TU.set (by decide +kernel) (pa_cons (pe_op op_cat (pv 5) (pe_dget hu (pe_dget hu (pv 2) pe_str (fun _ _ => rfl)) (pv 6) (fun _ _ => rfl))) pa_nil)) pa_nil))))))
      (pss_cons (ps_if (pt_cmpR op_eq (pv 4) pe_int (nomark _)) (pss_cons (ps_if (pt_cmpR op_gt (pe_call GN hr1 (by rfl) gN kpN bN .nil pass0 (pa_cons (pv 0) (pa_cons pe_int pa_nil))) pe_int (nomark _)) (pss_one (ps_set (i := 9) sc_law_deed.nd rfl (.inr rfl) (pe_op op_cat (pv 9) (pe_call GT hr1 (by rfl) gT kpT bT .nil pass0 (pa_cons (pv 5) pa_nil))))) pss_nil)
      (pss_cons (ps_set (i := 7) sc_law_deed.nd rfl (.inl rfl) (pe_and (pe_cmpR op_gt (pe_op op_mul pe_int (pe_callB call_lenD (by rfl) TU.len PySem.boot_len (pa_cons (pe_dget hu (pv 2) pe_str (fun _ _ => rfl)) pa_nil))) (pv 3) (nomark _)) (pe_one (pe_cmpR (op_eqD hr.units) (pe_lc (own := [("_law_name", 11)]) (g := gName 11) (tt := (tTest (tOp (rNotInD K) (tVar 11) (tCall spNames [] E0 (tCons (tVar 9) tNil))))) (te := (tVar 11)) (by rfl) sc_law_deed.nd (pi_list (pv 5))
        (blkOk_by (own := [("_law_name", 11)]) (N := N22) (sc := defScope s_law_deed) (by decide +kernel)) (fun _ _ _ _ _ => (pg_name (i := 11) sc_law_deed.nd rfl (.inl rfl))) (fun _ _ _ _ _ => pts_one (pt_cmpR (op_notInD hu5) (pv 11) (pe_call GM hr1 (by rfl) gM kpM bM .nil pass0 (pa_cons (pv 9) pa_nil)) (by rfl))) (fun _ _ _ _ _ => (pv 11))) (pe_lst pa_nil) (by rfl)))))
      (pss_cons (ps_dput hu (pv 2) pe_str (pe_or (pe_dget hu (pv 2) pe_str (fun _ _ => rfl)) (pe_one (pv 7))) rfl)
      (pss_one (ps_ret (pe_tup (pa_cons (pe_told1 (k := 6) .no TC Ft (by rfl) gt hr TBd rfl (by kernel_rfl) ⟨rfl, rfl⟩ (fun _ _ _ _ _ _ => rfl) fun E A outer s H f c' hr6 =>
        pe_meth (pv 1) T.cl mB GB hr6 bB .nil (passes_call (E := E) (takes_of rfl rfl rfl rfl) fun _ _ _ _ h => h) (pa_cons (pv 9) pa_nil)) (pa_cons (pe_ifExp (pt_val (pv 7)) pe_non (pe_tup (pa_cons pe_str pa_nil))) pa_nil)))))))) pss_nil)
      (pss_cons (ps_if (pt_cmpR op_lt (pv 4) pe_int (nomark _)) (pss_cons (ps_if (pt_not (pt_val (pe_dget hu (pv 2) pe_str (fun _ _ => rfl)))) (pss_one (ps_ret (pe_tup (pa_cons (pe_told1 (k := 6) .no TC Ft (by rfl) gt hr TBd rfl (by kernel_rfl) ⟨rfl, rfl⟩ (fun _ _ _ _ _ _ => rfl) fun E A outer s H f c' hr6 =>
        pe_meth (pv 1) T.cl mK GK hr6 bK .nil (passes_call (E := E) (takes_of rfl rfl rfl rfl) fun _ _ _ _ h => h) (pa_cons (pv 10) (pa_cons (pv 9) pa_nil))) (pa_cons (pe_tup (pa_cons pe_str pa_nil)) pa_nil))))) pss_nil)
      (pss_cons (ps_dput hu (pe_dget hu (pv 2) pe_str (fun _ _ => rfl)) (pv 10) (pe_callB (cr_sortBig (by rfl)) (by rfl) TU.sorted (by decide +kernel) (pa_cons (pe_callTy (cr_setBig (by rfl) hr.units) (by rfl) TU.set (by decide +kernel) (pa_cons (pe_op op_cat (pe_dget2 hu (pe_dget hu (pv 2) pe_str (fun _ _ => rfl)) (pv 10) (pe_lst pa_nil) ⟨rfl, rfl, rfl, rfl⟩) (pe_call GM hr1 (by rfl) gM kpM bM .nil pass0 (pa_cons (pv 9) pa_nil))) pa_nil)) pa_nil)) rfl)
      (pss_one (ps_ret (pe_tup (pa_cons (pe_told1 (k := 6) .no TC Ft (by rfl) gt hr TBd rfl (by kernel_rfl) ⟨rfl, rfl⟩ (fun _ _ _ _ _ _ => rfl) fun E A outer s H f c' hr6 =>
        pe_meth (pv 1) T.cl mK GK hr6 bK .nil (passes_call (E := E) (takes_of rfl rfl rfl rfl) fun _ _ _ _ h => h) (pa_cons (pv 10) (pa_cons (pv 9) pa_nil))) (pa_cons pe_non pa_nil))))))) pss_nil)
      (pss_cons (ps_if (pt_cmpR op_eq (pv 4) pe_int (nomark _)) (pss_cons (ps_set (i := 8) sc_law_deed.nd rfl (.inr rfl) (pe_ix ix_list (pe_lst (pa_cons (pe_un un_neg pe_int) (pa_cons (pv 3) (pa_cons (pe_op op_add (pv 3) (pe_call GN hr1 (by rfl) gN kpN bN .nil pass0 (pa_cons (pv 0) (pa_cons pe_int pa_nil)))) pa_nil)))) (pe_call GN hr1 (by rfl) gN kpN bN .nil pass0 (pa_cons (pv 0) (pa_cons pe_int pa_nil))) (fun _ _ => rfl)))
      (pss_cons (ps_if (pt_cmpR (op_neD hr.units) (pe_told1 (k := 6) .no TC Ft (by rfl) gt hr TBd rfl (by kernel_rfl) ⟨rfl, rfl⟩ (fun _ _ _ _ _ _ => rfl) fun E A outer s H f c' hr6 =>
        pe_meth (pv 1) T.cl mH GH hr6 bH .nil (passes_call (E := E) (takes_of rfl rfl rfl rfl) fun _ _ _ _ h => h) (pa_cons (pv 8) (pa_cons (pe_lst (pa_cons (pe_tup pa_nil) pa_nil)) pa_nil))) (pe_tup (pa_cons pe_str pa_nil)) (nomark _)) (pss_one (ps_ret (pe_tup (pa_cons pe_bl (pa_cons pe_non pa_nil))))) pss_nil)
      (pss_one (ps_ret (pe_tup (pa_cons (pe_told1 (k := 6) .no TC Ft (by rfl) gt hr TBd rfl (by kernel_rfl) ⟨rfl, rfl⟩ (fun _ _ _ _ _ _ => rfl) fun E A outer s H f c' hr6 =>
        pe_meth (pv 1) T.cl mK GK hr6 bK .nil (passes_call (E := E) (takes_of rfl rfl rfl rfl) fun _ _ _ _ h => h) (pa_cons (pv 8) (pa_cons (pe_lst (pa_cons (pe_tup pa_nil) pa_nil)) pa_nil))) (pa_cons (pe_tup (pa_cons pe_str pa_nil)) pa_nil))))))) pss_nil)
      (pss_cons (ps_if (pt_not (pt_val (pe_call GL hr5 (by rfl) gL kpL bL .nil pass0 (pa_cons (pe_told1 (k := 6) .no TC Ft (by rfl) gt hr TBd rfl (by kernel_rfl) ⟨rfl, rfl⟩ (fun _ _ _ _ _ _ => rfl) fun E A outer s H f c' hr6 =>
        pe_meth (pv 1) T.cl mB GB hr6 bB .nil (passes_call (E := E) (takes_of rfl rfl rfl rfl) fun _ _ _ _ h => h) (pa_cons (pe_lst (pa_cons (pe_tup (pa_cons pe_int (pa_cons pe_int (pa_cons pe_int pa_nil)))) pa_nil)) pa_nil)) (pa_cons (pe_tup (pa_cons pe_str (pa_cons pe_int pa_nil))) pa_nil))))) (pss_one (ps_ret (pe_tup (pa_cons pe_bl (pa_cons pe_non pa_nil))))) pss_nil)
      (pss_cons (ps_if (pt_not (pt_val (pe_call GL hr5 (by rfl) gL kpL bL .nil pass0 (pa_cons (pe_told1 (k := 6) .no TC Ft (by rfl) gt hr TBd rfl (by kernel_rfl) ⟨rfl, rfl⟩ (fun _ _ _ _ _ _ => rfl) fun E A outer s H f c' hr6 =>
        pe_meth (pv 1) T.cl mH GH hr6 bH .nil (passes_call (E := E) (takes_of rfl rfl rfl rfl) fun _ _ _ _ h => h) (pa_cons (pv 10) (pa_cons (pe_lst (pa_cons (pe_tup (pa_cons pe_int (pa_cons pe_int (pa_cons pe_int pa_nil)))) pa_nil)) pa_nil))) (pa_cons (pe_tup (pa_cons pe_str (pa_cons pe_int pa_nil))) pa_nil))))) (pss_one (ps_ret (pe_tup (pa_cons pe_bl (pa_cons pe_non pa_nil))))) pss_nil)
      (pss_one (ps_ret (pe_tup (pa_cons (pe_told1 (k := 6) .no TC Ft (by rfl) gt hr TBd rfl (by kernel_rfl) ⟨rfl, rfl⟩ (fun _ _ _ _ _ _ => rfl) fun E A outer s H f c' hr6 =>
        pe_meth (pv 1) T.cl mK GK hr6 bK .nil (passes_call (E := E) (takes_of rfl rfl rfl rfl) fun _ _ _ _ h => h) (pa_cons (pv 10) (pa_cons (pe_op op_cat (pv 9) (pe_lst (pa_cons (pe_tup (pa_cons pe_int (pa_cons pe_int (pa_cons pe_int pa_nil)))) pa_nil))) pa_nil))) (pa_cons (pe_tup (pa_cons pe_str (pa_cons (pe_callB call_len (by rfl) TU.len PySem.boot_len (pa_cons (pv 9) pa_nil)) pa_nil))) pa_nil)))))))))))))))), ?_⟩
    have m2 := ft.m2
    have m6 := ft.m6
    refine ⟨_, rfl, pl (o + 1), _, rfl, DGet.k (k := Sum.inr "many") S.own.hw, ?_⟩
    refine ⟨_, rfl, _, rfl, F, pl 0, s, ns, x.many, rfl, S.dice, by omega, by omega, fun seat H1 s0 s1 X1 D1 => ?_⟩
    have S1 := S.drawn X1 D1
    refine ⟨_, rfl, F, pl 0, s, ns, 3, 6, 4, rfl, S1.dice, by decide, by decide, by decide, by decide, by decide, by decide, fun F2 H2 ar xs rows X2 D2 na fa ha hp hl hdr => ?_⟩
    have S2a := (S1.drawn X2 D2).fz (S1.dice.ne na) fa ha
    have kr : (kL kRow).is (upd F2 ar (.lst xs)) (.ref ar) rows := kL_new fa hp
    have mA : Same F (upd F2 ar (.lst xs)) := X2.ff.trans (same_upd fa)
    revert S2a kr mA
    generalize upd F2 ar (.lst xs) = F3
    intro S2a kr mA
    clear X1 D1 X2 D2 na fa ha hp S1
    refine ⟨by show 2 ≤ sizeLine; decide, fun tt ntt => ?_⟩
    have S3 := S2a.quiet ((XM.refl S2a.same).lay (o := .tup [.int seat, .ref ar]) ntt)
    have ht : upd H2 tt (.tup [.int seat, .ref ar]) tt = some (.tup [.int seat, .ref ar]) := upd_same
    have kr3 := (kL kRow).mono (same_upd (o := .tup [.int seat, .ref ar]) (S2a.same.free ntt)) kr
    have mB := mA.trans (same_upd (o := .tup [.int seat, .ref ar]) (S2a.same.free ntt))
    revert S3 ht kr3 mB
    generalize upd F3 tt (.tup [V.int seat, .ref ar]) = F4
    generalize upd H2 tt (.tup [V.int seat, .ref ar]) = H3
    intro S3 ht kr3 mB
    clear S2a kr mA ntt
    refine ⟨tt, _, rfl, SqT.of ht, rfl, _, _, rfl, _, _, rfl, rfl, ?_⟩
    clear ht
    refine ⟨_, rfl, F4, pl 0, s, ns, 8, rfl, S3.dice, by decide, by decide, fun kind H4 k0 k1 X4 D4 => ?_⟩
    have S4 := S3.drawn X4 D4
    clear X4 D4 S3
    have fin : ∀ (F' H' : Hp) (x' : Dl) (a b : V), S2 K C s ns pl F' H' o o' x' x' y → FitD x' → Same F4 F' → Twin H' 3 a b → 2 ≤ sizeLine ∧ ∀ t, H' t = none → Q (.ref t) (upd H' t (.tup [a, b])) := fun F' H' x' a b S' f' m' tw =>
      ⟨by decide, fun t nt => q F' _ x' t a b (S'.quiet ((XM.refl S'.same).tmp nt)) f' (mB.trans m') upd_same (tw.mono (same_upd nt))⟩
    clear q
    refine ⟨_, rfl, _, _, rfl, rfl, _, rfl, iteL (fun c => ?_) (fun c => ?_)⟩
    · have rok := badAt_none.mpr (drawn6_ok hdr)
      have an6 := (ft.an).len m6
      refine ⟨_, rfl, pl (o + 1), _, rfl, DGet.k (k := Sum.inr "begun") S4.own.hw, ?_⟩
      cases hbg : x.bg with
      | true =>
        refine ⟨true, rfl, iteF ?_⟩
        refine ⟨S4.td, fun H5 g tab => ?_⟩
        have S5 := S4.growD g tab
        obtain ⟨dx, ob⟩ := S5.lead.ob
        refine ⟨_, rfl, pl o, dx, _, rfl, ob, ll_heard _ _ _ _, _, rfl, _, rfl, F4, pl o, pl (o + 2), pl (o + 3), x.many, x.an, x.kp, x.bg, seat, .ref ar, rfl, S5.same, S5.lead, by omega, fun z => absurd ⟨s0, s1⟩ z, fun _ => ⟨rows, [], kr3, by omega, fun i hi => (nomatch rok.symm.trans hi), fun _ => ⟨fun _ H6 sm => ?_, fun z => (nomatch hbg.symm.trans z)⟩⟩⟩
        have S6 := S5.quiet (.of (Ext.ofSame S5.same sm))
        exact fin F4 H6 x .non .non S6 ft (Same.refl _) twin_non
      | false =>
        refine ⟨false, rfl, iteT ?_⟩
        have S5 := S4.quiet ((XM.refl S4.same).absb fun c z => z.elim)
        have kr5 := (kL kRow).mono (absb_sub (F := F4) S4.same) kr3
        have m5 := absb_sub (F := F4) S4.same
        refine ⟨_, rfl, absb F4 H4, .ref ar, rows, rfl, S5.same, absb_full, kr5, drawn6_small hdr (by omega), fun F6 H6 an vs names X6 na fa ha hp nm => ?_⟩
        have S6 := (S5.quiet (.of X6)).fz (S5.dice.ne na) fa ha
        have kn : (kL kPt).is (upd F6 an (.lst vs)) (.ref an) names := kL_new fa hp
        have m6 := m5.trans (X6.ff.trans (same_upd (o := .lst vs) fa))
        revert S6 kn m6
        generalize upd F6 an (.lst vs) = F7
        intro S6 kn m6
        clear X6 na fa ha hp S5 kr5 m5
        obtain ⟨kvs, hk, dk⟩ := S6.own.ha
        have ld := dk.len
        have S7 := S6.putA (dk.put (e := ⟨seat, [], names⟩) kn)
        refine ⟨_, rfl, pl (o + 1), _, rfl, DGet.k (k := Sum.inr "answers") S6.own.hw, _, rfl, pl (o + 4), _, rfl, DPut.k (k := (Sum.inl seat : Key)) hk (by rw [sizeLine_eq]; omega), ?_⟩
        have mn : Same F4 F7 := m6
        refine ⟨S7.td, fun H8 g tab => ?_⟩
        have S8 := S7.growD g tab
        obtain ⟨dx, ob⟩ := S8.lead.ob
        refine ⟨_, rfl, pl o, dx, _, rfl, ob, ll_heard _ _ _ _, _, rfl, _, rfl, F7, pl o, pl (o + 2), pl (o + 3), x.many, x.an, x.kp, x.bg, seat, .ref ar, rfl, S8.same, S8.lead, by omega, fun z => absurd ⟨s0, s1⟩ z, fun _ => ⟨rows, names, (kL kRow).mono mn kr3, by omega, fun i hi => (nomatch rok.symm.trans hi), fun _ => ⟨fun z => (nomatch hbg.symm.trans z), fun _ F9 H9 rs X9 fw A9 => ?_⟩⟩⟩
        have S9 := (S8.heard (x' := ⟨x.many, putE x.an ⟨seat, rs, names⟩, x.kp, x.bg⟩) X9 A9).reA (r2 := rs)
        have R9 : RowsOf names rs := rowsOf_mk fw.can fun p => by rw [fw.mem p, nm.mem p]
        exact fin F9 H9 _ .non .non S9 ⟨ft.m2, ft.m6, ft.an.put s0 s1 ⟨R9, nm.sort, fun q hq => drawn6_bx hdr ((nm.mem q).mp hq)⟩, ft.kp⟩ (mn.trans X9.ff) twin_non
    · refine ⟨Nat.zero_le _, fun e0 ne0 => ?_⟩
      have S5 := S4.quiet ((XM.refl S4.same).lay (o := .lst []) ne0)
      have k0 : (kL kPt).is (upd F4 e0 (.lst [])) (.ref e0) [] := ⟨e0, [], rfl, upd_same, .nil⟩
      have m5 := same_upd (o := .lst []) (S4.same.free ne0)
      have kr5 := (kL kRow).mono m5 kr3
      revert S5 k0 m5 kr5
      generalize upd F4 e0 (.lst []) = F5
      generalize upd H4 e0 (.lst []) = H5
      intro S5 k0 m5 kr5
      clear ne0 S4 kr3
      obtain ⟨kvs, hk, dk⟩ := S5.own.ha
      have hdn : H5 (pl (o + 4)) ≠ none := by rw [hk]; simp
      have n14 : pl (o + 1) ≠ pl (o + 4) := fun e => by
        have := S5.inj _ _ (by have := S5.oo; omega) (by have := S5.oo; omega) e
        omega
      refine ⟨pl (o + 4), .dK kvs, hk, trivial, fun od => ?_⟩
      have hwf : upd H5 (pl (o + 4)) (.frz od (.dK kvs)) (pl (o + 1)) = some (.dK (ownL x.many (pl (o + 4)) x.bg (pl (o + 5)))) := by rw [upd_ne n14]; exact S5.own.hw
      refine ⟨_, rfl, pl (o + 1), _, rfl, DGet.k (k := Sum.inr "answers") hwf, pl (o + 4), od, rfl, .inl ⟨kvs, upd_same,
        for_it walk_keys (fun i σ H' => ∃ F' v ps y6, σ = [some (.ref (pl 0)), some (.ref (pl o)), some (.ref (pl (o + 1))), some (.int x.many), some (.int kind), some v, y6, none, none, some (.ref ar), some (.int seat), none] ∧ UL F5 H5 (pl (o + 4)) od kvs x.an i F' H' v ps)
        ⟨F5, _, [], _, rfl, UL.start S5.same S5.own.fa hk dk k0⟩ (fun i σ H' _ ⟨_, _, _, _, _, U⟩ => U.hd) ?_ ?_⟩⟩
      · rintro i z σ _ H6 hi ⟨F6, v, ps, y6, rfl, U⟩ ⟨rfl, k, v', hkv, rfl⟩
        obtain ⟨hv, st⟩ := U.step (P := P) (w := w) (K := K) hdn ft.an m6 hkv (Q := fun v2 H3 => ∃ F3 v3 ps3 y3, [some (V.ref (pl 0)), some (.ref (pl o)), some (.ref (pl (o + 1))), some (.int x.many), some (.int kind), some v2, some (kV k), none, none, some (.ref ar), some (.int seat), none] = [some (V.ref (pl 0)), some (.ref (pl o)), some (.ref (pl (o + 1))), some (.int x.many), some (.int kind), some v3, y3, none, none, some (.ref ar), some (.int seat), none] ∧ UL F5 H5 (pl (o + 4)) od kvs x.an (i + 1) F3 H3 v3 ps3) fun F3 H3 v3 ps3 U3 => ⟨F3, v3, ps3, _, rfl, U3⟩
        have hw6 : H6 (pl (o + 1)) = some (.dK (ownL x.many (pl (o + 4)) x.bg (pl (o + 5)))) := by
          have := U.X.hh _ _ S5.own.hw id
          rwa [upd_ne n14] at this
        refine ⟨_, rfl, _, rfl, pl (o + 1), _, rfl, DGet.k (k := Sum.inr "answers") hw6, _, rfl, pl (o + 4), _, rfl, .inl ⟨kvs, k, .inr ⟨od, U.hd⟩, rfl, hv.symm⟩, ?_⟩
        exact st
      rintro σ H6 ⟨F6, v, must, y6, rfl, U⟩
      refine ⟨U.hd, ?_⟩
      have al := U.all
      rw [show kvs.length = x.an.length from dk.len, List.take_length] at al
      have kv := U.kv
      have S6 := S5.quiet (.of U.X)
      have kr6 := (kL kRow).mono U.X.ff kr5
      have m6' := m5.trans U.X.ff
      clear U S5 kr5 m5 k0 hk dk hdn n14
      revert S6
      generalize upd H6 (pl (o + 4)) (.dK kvs) = H7
      intro S6
      have bxm := al.box' ft.an
      have lm := b18_len al.sort bxm
      have rok := badAt_none.mpr (drawn6_ok hdr)
      have an6 := (ft.an).len m6
      refine ⟨_, rfl, rfl, _, rfl, iteI (fun e => ?_) (fun e => ?_)⟩
      · have m0 : 0 ≤ x.many := by omega
        refine seq_join (fun σ H' => ∃ F' v' rows', σ = [some (.ref (pl 0)), some (.ref (pl o)), some (.ref (pl (o + 1))), some (.int x.many), some (.int kind), some v, y6, none, none, some v', some (.int seat), none] ∧ S2 K C s ns pl F' H' o o' x x y ∧ Same F6 F' ∧ (kL kRow).is F' v' rows' ∧ (∀ r ∈ rows', Drawn 3 6 r) ∧ rows'.length ≤ 22) ?_ fun key => ?_
        · rintro _ H8 ⟨F8, v', rows', rfl, S8, m8, kr8, hdr8, hl8⟩
          refine seq_join (fun σ H' => ∃ F' y11 b, σ = [some (.ref (pl 0)), some (.ref (pl o)), some (.ref (pl (o + 1))), some (.int x.many), some (.int kind), some v, y6, some (.bl b), none, some v', some (.int seat), y11] ∧ S2 K C s ns pl F' H' o o' x x y ∧ Same F8 F' ∧ (b = true ↔ x.many / 2 + 1 ≤ (x.an.length : Int) ∧ ∀ q ∈ must, mem rows' q)) ?_ fun key => ?_
          · rintro _ H9 ⟨F9, y11, b, rfl, S9, m9, hb⟩
            have kr9 := (kL kRow).mono m9 kr8
            have mm := m6'.trans (m8.trans m9)
            have rok9 := badAt_none.mpr (drawn6_ok hdr8)
            refine seq_join (fun σ H' => σ = [some (.ref (pl 0)), some (.ref (pl o)), some (.ref (pl (o + 1))), some (.int x.many), some (.int kind), some v, y6, some (.bl b), none, some v', some (.int seat), y11] ∧ S2 K C s ns pl F9 H' o o' x ⟨x.many, x.an, x.kp, x.bg || b⟩ y) ?_ fun key => ?_
            rotate_left
            · refine ⟨_, rfl, pl (o + 1), _, rfl, DGet.k (k := Sum.inr "begun") S9.own.hw, x.bg, rfl, ?_⟩
              cases hbg : x.bg with
              | true =>
                refine iteT ?_
                refine ⟨_, rfl, pl (o + 1), _, rfl, DPut.k (k := Sum.inr "begun") S9.own.hw (by show 4 < sizeLine; decide), ?_⟩
                rw [ol_put]
                exact key _ _ ⟨rfl, by rw [hbg]; exact S9.putB true⟩
              | false =>
                refine iteF ?_
                refine ⟨_, rfl, _, rfl, pl (o + 1), _, rfl, DPut.k (k := Sum.inr "begun") S9.own.hw (by show 4 < sizeLine; decide), ?_⟩
                rw [ol_put]
                exact key _ _ ⟨rfl, by rw [hbg, Bool.false_or]; exact S9.putB b⟩
            rintro _ H10 ⟨rfl, S10⟩
            generalize hb2 : (x.bg || b) = b2 at S10
            refine ⟨S10.td, fun H11 g tab => ?_⟩
            have S11 := S10.growD g tab
            obtain ⟨dx, ob⟩ := S11.lead.ob
            have same0 : b = false → (⟨x.many, x.an, x.kp, b2⟩ : Dl) = x := fun z => by
              rw [← hb2, z, Bool.or_false]
            refine ⟨_, rfl, pl o, dx, _, rfl, ob, ll_begin _ _ _ _, _, rfl, F9, pl o, pl (o + 2), pl (o + 3), x.many, x.an, x.kp, x.bg, v', rows', rfl, S11.same, S11.lead, m0, ft.an.ok m6, kr9, by omega, fun i hi => (nomatch rok9.symm.trans hi), fun _ => ⟨fun c => ?_, fun c => ⟨fun ⟨q, h1, h2⟩ => ?_, fun all => ?_⟩⟩⟩
            · have bf : b = false := by
                cases b with
                | false => rfl
                | true => exact absurd (hb.mp rfl).1 (by omega)
              subst bf
              have e2 := same0 rfl
              rw [e2] at S11
              intro H12 sm12
              refine EW.plain 6 (by decide) (by decide) (by decide) fun H13 t1 sm nt ht => ?_
              have S13 := S11.quiet (.of (Ext.ofSame S11.same (sm12.trans sm)))
              refine ⟨_, rfl, false, rfl, iteF ⟨by show 1 ≤ sizeLine; decide, fun t2 nt2 => ?_⟩⟩
              have S14 := S13.quiet ((XM.refl S13.same).tmp (o := .tup [.str "not yet"]) nt2)
              exact fin F9 _ x _ _ S14 ft mm (twin_tups (xs := [.str "not yet"]) (by rw [upd_ne (ne_of_none ht nt2)]; exact ht) upd_same (by show 1 ≤ 100000; decide) fun z hz => by rw [List.mem_singleton.mp hz]; exact .inr (.inr (.inl ⟨_, rfl, rfl⟩)))
            · have bf : b = false := by
                cases b with
                | false => rfl
                | true => exact absurd ((hb.mp rfl).2 q ((al.cnt ft.an q).mpr h1)) h2
              subst bf
              have e2 := same0 rfl
              rw [e2] at S11
              intro H12 sm12
              refine EW.plain 6 (by decide) (by decide) (by decide) fun H13 t1 sm nt ht => ?_
              have S13 := S11.quiet (.of (Ext.ofSame S11.same (sm12.trans sm)))
              refine ⟨_, rfl, false, rfl, iteF ⟨by show 1 ≤ sizeLine; decide, fun t2 nt2 => ?_⟩⟩
              have S14 := S13.quiet ((XM.refl S13.same).tmp (o := .tup [.str "not yet"]) nt2)
              exact fin F9 _ x _ _ S14 ft mm (twin_tups (xs := [.str "not yet"]) (by rw [upd_ne (ne_of_none ht nt2)]; exact ht) upd_same (by show 1 ≤ 100000; decide) fun z hz => by rw [List.mem_singleton.mp hz]; exact .inr (.inr (.inl ⟨_, rfl, rfl⟩)))
            · have bt : b = true := hb.mpr ⟨c, fun q hq => all q ((al.cnt ft.an q).mp hq)⟩
              intro F12 H12 X12 A12
              subst bt
              have eb2 : b2 = true := by rw [← hb2, Bool.or_true]
              subst eb2
              have S12 := S11.begun (x' := ⟨x.many, x.an, x.kp, true⟩) X12 A12
              refine ⟨_, rfl, true, rfl, iteT ?_⟩
              exact fin F12 H12 ⟨x.many, x.an, x.kp, true⟩ .non .non S12 ⟨ft.m2, ft.m6, ft.an, ft.kp⟩ (mm.trans X12.ff) twin_non
          · obtain ⟨kvs, hk, dk⟩ := S8.own.ha
            have lk := dk.len
            refine ⟨_, rfl, pl (o + 1), _, rfl, DGet.k (k := Sum.inr "answers") S8.own.hw, _, kvs, rfl, hk, _, _, rfl, rfl, .inl (by decide), _, rfl, _, _, rfl, rfl, _, rfl, iteL (fun c => ?_) (fun c => ?_)⟩
            · have kv8 := (kL kPt).mono m8 kv
              obtain ⟨am, xm, em, ham, hpm⟩ := id kv8
              subst em
              refine ⟨_, rfl, am, rfl, ⟨xm, SqL.of (S8.same _ _ ham)⟩, fun D nD => ?_⟩
              have f8 := S8.same.free nD
              refine it_by (walk_list (K := K) (a := am) (xs := xm)) (fun i H' => ∃ (F' : Hp) (acc : List V) (miss : List Pt), XM M0 F8 H8 F' H' ∧ H' D = some (.lst acc) ∧ F' D = none ∧ Paired (kPt.is F') acc miss ∧ miss.length ≤ i ∧ ∀ q, q ∈ miss ↔ q ∈ must.take i ∧ ¬ mem rows' q)
                ⟨F8, [], [], (XM.refl S8.same).tmp nD, upd_same, f8, .nil, Nat.le_refl _, fun q => by simp⟩ (fun i H' _ ⟨_, _, _, X, _⟩ => SqL.of (X.fh _ _ (X.ff _ _ ham))) ?_ ?_
              · rintro i y _ H9 hi ⟨F9, acc, miss, X9, hD9, fD9, hacc, hl9, hm9⟩ ⟨rfl, hx⟩
                obtain ⟨p, hp, hxp⟩ := pr_get hpm hx
                have X10 := X9.absb fun c z => z.elim
                have fD10 : absb F9 H9 D = none := by rw [absb_ne (fun xs e => by rw [hD9] at e; cases e)]; exact fD9
                have m10 := absb_sub (F := F9) X9.fh
                refine ⟨rfl, _, rfl, _, rfl, absb F9 H9, v', rows', rfl, X10.fh, absb_full, (kL kRow).mono X10.ff kr8, drawn6_small hdr8 (by omega), fun F11 H11 an vs names X11 na fa ha hpn nm => ?_⟩
                have X12 := X10.step X11
                have hD11 := X11.hh _ _ hD9 id
                have fD11 : F11 D = none := by rw [X11.new D (by rw [hD9]; simp)]; exact fD10
                have hxp11 := kPt.mono X12.ff hxp
                have hacc11 := pr_mono (fun _ _ z => kPt.mono (m10.trans X11.ff) z) hacc
                refine ⟨dPt p, names.map dPt, enc_pt.dp X12.fh hxp11, .lst (SqL.of ha) (dpAll enc_pt X12.fh hpn), shaped_pt p, shaped_pts names, ?_⟩
                rw [any_pts]
                have ei : ∀ q, q ∈ must.take (i + 1) ↔ q ∈ must.take i ∨ q = p := fun q => by
                  rw [List.take_add_one, hp]; simp
                have la := pr_len hacc11
                by_cases g : p ∈ names
                · rw [decide_eq_true g]
                  refine ⟨_, rfl, F11, acc, miss, X12, hD11, fD11, hacc11, by omega, fun q => ?_⟩
                  rw [hm9 q, ei q]
                  constructor
                  · rintro ⟨a, b⟩; exact ⟨.inl a, b⟩
                  · rintro ⟨a | a, b⟩
                    · exact ⟨a, b⟩
                    · rw [a] at b; exact absurd ((nm.mem p).mp g) b
                · rw [decide_eq_false g]
                  refine ⟨_, rfl, _, rfl, acc, hD11, by rw [sizeLine_eq]; have := (List.getElem?_eq_some_iff.mp hp).1; omega, F11, acc ++ [y], miss ++ [p], X12.put (.inl nD) fD11, upd_same, fD11, pr_snoc hacc11 hxp11, by rw [List.length_append]; simp; omega, fun q => ?_⟩
                  rw [List.mem_append, hm9 q, ei q, List.mem_singleton]
                  constructor
                  · rintro (⟨a, b⟩ | a)
                    · exact ⟨.inl a, b⟩
                    · exact ⟨.inr a, by rw [a]; exact fun z => g ((nm.mem p).mpr z)⟩
                  · rintro ⟨a | a, b⟩
                    · exact .inl ⟨a, b⟩
                    · exact .inr a
              · rintro H9 ⟨F9, acc, miss, X9, hD9, fD9, hacc, hl9, hm9⟩
                rw [pr_len hpm, List.take_length] at hm9
                refine ⟨Nat.zero_le _, fun e0 ne0 => ?_⟩
                have X10 := X9.tmp (o := .lst []) ne0
                have S10 := S8.quiet X10
                have hD10 : upd H9 e0 (.lst []) D = some (.lst acc) := by rw [upd_ne (ne_of_none hD9 ne0)]; exact hD9
                refine ⟨dL dPt miss, dL dPt [], .lst (SqL.of hD10) (dpAll enc_pt X10.fh hacc), .lst (SqL.of upd_same) .nil, shaped_pts _, shaped_pts [], ?_⟩
                rw [eqv_nil]
                refine key _ _ ⟨F9, _, decide (miss = []), rfl, S10, X9.ff, ?_⟩
                rw [decide_eq_true_eq]
                constructor
                · intro z
                  refine ⟨by omega, fun q hq => ?_⟩
                  rcases Classical.em (mem rows' q) with h | h
                  · exact h
                  · have := (hm9 q).mpr ⟨hq, h⟩
                    rw [z] at this
                    exact absurd this (by simp)
                · rintro ⟨_, h⟩
                  refine List.eq_nil_iff_forall_not_mem.mpr fun q hq => ?_
                  have := (hm9 q).mp hq
                  exact this.2 (h q this.1)
            · exact key _ _ ⟨F8, _, false, rfl, S8, Same.refl _, ⟨fun z => (nomatch z), fun z => absurd z.1 (by omega)⟩⟩
        · refine ⟨_, rfl, F6, pl 0, s, ns, 3, rfl, S6.dice, by decide, by decide, fun z H8 z0 z1 X8 D8 => ?_⟩
          have S8 := S6.drawn X8 D8
          have kv8 := (kL kPt).mono X8.ff kv
          have kr8 := (kL kRow).mono X8.ff kr6
          have m8 := X8.ff
          clear X8 D8
          refine ⟨_, _, rfl, rfl, _, rfl, iteL (fun c => ?_) (fun c => ?_)⟩
          · obtain ⟨ar', xs8, e8, ha8, hp8⟩ := id kr8
            cases e8
            have lx := pr_len hp8
            refine ⟨_, rfl, _, rfl, _, v, must, rfl, S8.same, kv8, al.sort, by omega, fun F9 H9 a vs out X9 na fa ha hp tl => ?_⟩
            have S9 := S8.quiet (.of X9)
            have lv := pr_len hp
            have lo := tl.len
            refine ⟨ar, a, xs8, vs, rfl, rfl, S9.same _ _ (X9.ff _ _ ha8), ha, by rw [sizeLine_eq]; omega, fun cc nc => ?_⟩
            have fc := S9.same.free nc
            have S10 := S9.quiet ((XM.refl S9.same).lay (o := .lst (xs8 ++ vs)) nc)
            refine key _ _ ⟨_, .ref cc, rows ++ out, rfl, S10, m8.trans (X9.ff.trans (same_upd fc)), kL_new fc (pr_append (pr_mono (fun _ _ z => kRow.mono X9.ff z) hp8) hp), fun r hr => ?_, by rw [List.length_append]; omega⟩
            rcases List.mem_append.mp hr with z | z
            · exact hdr r z
            · exact drawn6_of ⟨tl.can, tl.mem, tl.len⟩ bxm r z
          · exact key _ _ ⟨_, _, rows, rfl, S8, m8, kr8, hdr, by omega⟩
      · refine ⟨_, rfl, _, _, rfl, rfl, _, rfl, iteL (fun c => ?_) (fun c => ?_)⟩
        · refine ⟨_, rfl, pl (o + 1), _, rfl, DGet.k (k := Sum.inr "begun") S6.own.hw, ?_⟩
          have kp6 := (ft.kp).len m6
          have eok := ft.kp.ok m6
          cases hbg : x.bg with
          | false =>
            refine ⟨false, rfl, iteT ?_⟩
            refine ⟨S6.td, fun H8 g tab => ?_⟩
            have S8 := S6.growD g tab
            obtain ⟨dx, ob⟩ := S8.lead.ob
            refine ⟨_, rfl, pl o, dx, _, rfl, ob, ll_kept _ _ _ _, _, rfl, _, rfl, F6, pl o, pl (o + 2), pl (o + 3), x.many, x.an, x.kp, x.bg, seat, .ref ar, rfl, S8.same, S8.lead, eok, fun z => absurd ⟨s0, s1⟩ z, fun _ => ⟨rows, [], kr6, by omega, fun i hi => (nomatch rok.symm.trans hi), fun _ => ⟨fun _ H9 sm9 => ?_, fun z => (nomatch hbg.symm.trans z)⟩⟩⟩
            refine EW.plain 6 (by decide) (by decide) (by decide) fun H10 t1 sm nt ht => ?_
            have S10 := S8.quiet (.of (Ext.ofSame S8.same (sm9.trans sm)))
            refine ⟨by show 1 ≤ sizeLine; decide, fun t2 nt2 => ?_⟩
            have S11 := S10.quiet ((XM.refl S10.same).tmp (o := .tup [.str "not yet"]) nt2)
            exact fin F6 _ x _ _ S11 ft m6' (twin_tups (xs := [.str "not yet"]) (by rw [upd_ne (ne_of_none ht nt2)]; exact ht) upd_same (by show 1 ≤ 100000; decide) fun z hz => by rw [List.mem_singleton.mp hz]; exact .inr (.inr (.inl ⟨_, rfl, rfl⟩)))
          | true =>
            refine ⟨true, rfl, iteF ?_⟩
            obtain ⟨kvs, hk, dk⟩ := S6.own.hk
            refine ⟨_, rfl, pl (o + 1), _, rfl, DGet.k (k := Sum.inr "kept") S6.own.hw, pl (o + 5), rfl, .inl ⟨kvs, .inl hk⟩, _, rfl, by show 0 ≤ sizeLine; decide, fun l nl => ?_⟩
            have S8 := S6.quiet ((XM.refl S6.same).lay (o := .lst []) nl)
            have kl : (kL kPt).is (upd F6 l (.lst [])) (.ref l) [] := ⟨l, [], rfl, upd_same, .nil⟩
            have hk8 : upd H7 l (.lst []) (pl (o + 5)) = some (.dK kvs) := by rw [upd_ne (ne_of_none hk nl)]; exact hk
            have m8 := same_upd (o := .lst []) (S6.same.free nl)
            have dk8 : DK (PtR (upd F6 l (.lst []))) kvs x.kp := dk.mono fun _ _ z => (kL kPt).mono m8 z
            have kr8 := (kL kRow).mono m8 kr6
            have m8' := m6'.trans m8
            revert S8 kl hk8 dk8 kr8 m8'
            generalize upd F6 l (.lst []) = F8
            generalize upd H7 l (.lst []) = H8
            intro S8 kl hk8 dk8 kr8 m8'
            clear m8 nl S6 hk dk kr6 m6' kv
            obtain ⟨ao, old, ho1, ho2, ho3, ho4, ho5⟩ : ∃ (ao : Addr) (old : List Pt), ((valV kvs (.inl seat : Key)).getD (.ref l)) = .ref ao ∧ (kL kPt).is F8 (.ref ao) old ∧ old.Pairwise lt2 ∧ (∀ q ∈ old, B18 q) ∧ RowsOf old (((valE x.kp seat).map (·.rs)).getD []) := by
              rcases dk8.get seat with ⟨e1, e2⟩ | ⟨v', e, e1, e2, r⟩
              · exact ⟨l, [], by rw [e1]; rfl, kl, .nil, fun q hq => absurd hq (by simp), by rw [e2]; exact rowsOf_mk .nil fun p => ⟨fun h => absurd h mem_nil, fun h => absurd h (by simp)⟩⟩
              · have g := ft.kp.good e (List.mem_of_find?_eq_some e2)
                obtain ⟨a', xs', rfl, h1, h2⟩ := id r
                exact ⟨a', e.ps, by rw [e1]; rfl, r, g.sort, g.box, by rw [e2]; exact g.rows⟩
            refine ⟨valV kvs (.inl seat : Key), DGet.k (k := (Sum.inl seat : Key)) hk8, ?_⟩
            rw [ho1]
            have S9 := S8.quiet ((XM.refl S8.same).absb fun c z => z.elim)
            have m9 := absb_sub (F := F8) S8.same
            have kr9 := (kL kRow).mono m9 kr8
            refine ⟨_, rfl, absb F8 H8, .ref ar, rows, rfl, S9.same, absb_full, kr9, drawn6_small hdr (by omega), fun F10 H10 an vs names X10 na fa ha hp nm => ?_⟩
            have S10 := S9.quiet (.of X10)
            have m10 := m9.trans X10.ff
            have ko10 := (kL kPt).mono m10 ho2
            have kr10 := (kL kRow).mono m10 kr8
            have hk10 := X10.hh _ _ hk8 id
            have dk10 : DK (PtR F10) kvs x.kp := dk8.mono fun _ _ z => (kL kPt).mono m10 z
            clear S9 m9 kr9 X10 na fa S8 hk8 dk8 kr8 kl ho2
            obtain ⟨ao', xo, eo, hao, pao⟩ := id ko10
            cases eo
            have lo := b18_len ho3 ho4
            have bn : ∀ q ∈ names, B18 q := fun q hq => drawn6_bx hdr ((nm.mem q).mp hq)
            have ln := b18_len nm.sort bn
            simp only [tNil, tCons, tCB]
            refine read_union (P := P) (w := w) (K := K) S10.same (S10.same _ _ hao) pao ha hp (fun p hp => hp.elim (fun z => (ho4 p z).inF) fun z => (bn p z).inF) (by omega) fun H11 cc vs11 out X11 nc fc hc hp11 un => ?_
            have S11 := (S10.quiet (.of X11)).fz (S10.dice.ne nc) fc hc
            have kn : (kL kPt).is (upd F10 cc (.lst vs11)) (.ref cc) out := kL_new fc hp11
            have hk11 := X11.hh _ _ hk10 id
            have m11 := same_upd (o := .lst vs11) fc
            have dk11 : DK (PtR (upd F10 cc (.lst vs11))) kvs x.kp := dk10.mono fun _ _ z => (kL kPt).mono m11 z
            have kr11 := (kL kRow).mono m11 kr10
            have mm := m8'.trans (m10.trans m11)
            revert S11 kn dk11 kr11 mm
            generalize upd F10 cc (.lst vs11) = F11
            intro S11 kn dk11 kr11 mm
            clear S10 m10 ko10 kr10 hk10 dk10 X11 nc fc hc hp11 m11 hao pao ha hp
            have ld := dk11.len
            have S12 := S11.putK (dk11.put (e := ⟨seat, [], out⟩) kn)
            refine ⟨_, rfl, pl (o + 1), _, rfl, DGet.k (k := Sum.inr "kept") S11.own.hw, _, rfl, pl (o + 5), _, rfl, DPut.k (k := (Sum.inl seat : Key)) hk11 (by rw [sizeLine_eq]; omega), ?_⟩
            refine ⟨S12.td, fun H13 g tab => ?_⟩
            have S13 := S12.growD g tab
            obtain ⟨dx, ob⟩ := S13.lead.ob
            refine ⟨_, rfl, pl o, dx, _, rfl, ob, ll_kept _ _ _ _, _, rfl, _, rfl, F11, pl o, pl (o + 2), pl (o + 3), x.many, x.an, x.kp, x.bg, seat, .ref ar, rfl, S13.same, S13.lead, eok, fun z => absurd ⟨s0, s1⟩ z, fun _ => ⟨rows, out, kr11, by omega, fun i hi => (nomatch rok.symm.trans hi), fun _ => ⟨fun z => (nomatch hbg.symm.trans z), fun _ F14 H14 rs X14 fw A14 => ?_⟩⟩⟩
            have S14 := (S13.kept (x' := ⟨x.many, x.an, putE x.kp ⟨seat, rs, out⟩, x.bg⟩) X14 A14).reK (r2 := rs)
            have R14 : RowsOf out rs := rowsOf_mk fw.can fun p => by rw [fw.mem p, mem_append, un.mem p, ho5.mem p, nm.mem p]
            exact fin F14 H14 _ .non .non S14 ⟨ft.m2, ft.m6, ft.an, ft.kp.put s0 s1 ⟨R14, un.sort, fun q hq => ((un.mem q).mp hq).elim (ho4 q) (bn q)⟩⟩ (mm.trans X14.ff) twin_non
        · refine ⟨_, rfl, rfl, _, rfl, iteI (fun e => ?_) (fun e => ?_)⟩
          · refine ⟨1, rfl, _, rfl, _, rfl, _, rfl, F6, pl 0, s, ns, 9, rfl, S6.dice, by decide, by decide, fun z1 H8 z10 z11 X8 D8 => ?_⟩
            have S8 := S6.drawn X8 D8
            refine ⟨_, _, rfl, rfl, by show 3 ≤ sizeLine; decide, fun l nl => ?_⟩
            have S9 := S8.quiet ((XM.refl S8.same).lay (o := .lst [.int (-1), .int x.many, .int (x.many + z1)]) nl)
            have hl9 : upd F6 l (.lst [.int (-1), .int x.many, .int (x.many + z1)]) l = some (.lst [.int (-1), .int x.many, .int (x.many + z1)]) := upd_same
            have m9 := m6'.trans (same_upd (o := .lst [.int (-1), .int x.many, .int (x.many + z1)]) (S8.same.free nl))
            revert S9 hl9 m9
            generalize upd F6 l (.lst [V.int (-1), .int x.many, .int (x.many + z1)]) = F9
            generalize upd H8 l (.lst [V.int (-1), .int x.many, .int (x.many + z1)]) = H9
            intro S9 hl9 m9
            clear X8 D8 S8 nl S6 kr6 kv
            refine ⟨_, rfl, F9, pl 0, s, ns, 3, rfl, S9.dice, by decide, by decide, fun z2 H10 z20 z21 X10 D10 => ?_⟩
            have S10 := S9.drawn X10 D10
            clear X10 D10 S9
            obtain ⟨odd, hodd, hno⟩ : ∃ e : Int, atI [V.int (-1), .int x.many, .int (x.many + z1)] z2 = some (.int e) ∧ ¬ (0 ≤ e ∧ e < x.many) := by
              obtain ⟨j, rfl⟩ : ∃ j : Nat, z2 = (j : Int) := ⟨z2.toNat, by omega⟩
              have hj : j < 3 := by omega
              match j, hj with
              | 0, _ => exact ⟨_, atI_nat rfl, by omega⟩
              | 1, _ => exact ⟨_, atI_nat rfl, by omega⟩
              | 2, _ => exact ⟨_, atI_nat rfl, by omega⟩
            refine ⟨l, _, _, _, rfl, rfl, SqL.of (S10.same _ _ hl9), hodd, ?_⟩
            refine ⟨S10.td, fun H11 g tab => ?_⟩
            have S11 := S10.growD g tab
            obtain ⟨dx, ob⟩ := S11.lead.ob
            refine ⟨_, rfl, pl o, dx, _, rfl, ob, ll_heard _ _ _ _, _, rfl, by show 0 ≤ sizeLine; decide, fun e1 ne1 => ?_⟩
            have S12 := S11.quiet ((XM.refl S11.same).tmp (o := .tup []) ne1)
            revert S12
            generalize upd H11 e1 (.tup []) = H12
            intro S12
            refine ⟨by show 1 ≤ sizeLine; decide, fun l1 nl1 => ?_⟩
            have S13 := S12.quiet ((XM.refl S12.same).tmp (o := .lst [.ref e1]) nl1)
            revert S13
            generalize upd H12 l1 (.lst [V.ref e1]) = H13
            intro S13
            refine ⟨F9, pl o, pl (o + 2), pl (o + 3), x.many, x.an, x.kp, x.bg, odd, .ref l1, rfl, S13.same, S13.lead, by omega, fun _ => ?_, fun z => absurd z hno⟩
            refine EW.plain 1 (by decide) (by decide) (by decide) fun H14 t1 sm nt ht => ?_
            have S14 := S13.quiet (.of (Ext.ofSame S13.same sm))
            refine ⟨by show 1 ≤ sizeLine; decide, fun t2 nt2 => ?_⟩
            have S15 := S14.quiet ((XM.refl S14.same).tmp (o := .tup [.str "house"]) nt2)
            refine ⟨.tuple [.str "house"], .tuple [.str "house"], .tup (SqT.of (xs := [.str "house"]) (by rw [upd_ne (ne_of_none ht nt2)]; exact ht)) (.cons (.str _) .nil), .tup (SqT.of upd_same) (.cons (.str _) .nil), by decide +kernel, by decide +kernel, ?_⟩
            rw [show PyData.eqv (.tuple [.str "house"]) (.tuple [.str "house"]) = true by decide +kernel]
            refine ⟨_, rfl, iteF ?_⟩
            revert S15
            generalize upd H14 t2 (.tup [V.str "house"]) = H15
            intro S15
            clear S14 S13 S12 S11 S10 ob tab g ne1 nl1 ht nt nt2 sm
            refine ⟨S15.td, fun H16 g tab => ?_⟩
            have S16 := S15.growD g tab
            obtain ⟨dx, ob⟩ := S16.lead.ob
            refine ⟨_, rfl, pl o, dx, _, rfl, ob, ll_kept _ _ _ _, _, rfl, by show 0 ≤ sizeLine; decide, fun e1 ne1 => ?_⟩
            have S17 := S16.quiet ((XM.refl S16.same).tmp (o := .tup []) ne1)
            revert S17
            generalize upd H16 e1 (.tup []) = H17
            intro S17
            refine ⟨by show 1 ≤ sizeLine; decide, fun l1 nl1 => ?_⟩
            have S18 := S17.quiet ((XM.refl S17.same).tmp (o := .lst [.ref e1]) nl1)
            revert S18
            generalize upd H17 l1 (.lst [V.ref e1]) = H18
            intro S18
            refine ⟨F9, pl o, pl (o + 2), pl (o + 3), x.many, x.an, x.kp, x.bg, odd, .ref l1, rfl, S18.same, S18.lead, ft.kp.ok m6, fun _ => ?_, fun z => absurd z hno⟩
            refine EW.plain 1 (by decide) (by decide) (by decide) fun H19 t1 sm nt ht => ?_
            have S19 := S18.quiet (.of (Ext.ofSame S18.same sm))
            refine ⟨by show 1 ≤ sizeLine; decide, fun t2 nt2 => ?_⟩
            have S20 := S19.quiet ((XM.refl S19.same).tmp (o := .tup [.str "house"]) nt2)
            exact fin F9 _ x _ _ S20 ft m9 (twin_tups (xs := [.str "house"]) (by rw [upd_ne (ne_of_none ht nt2)]; exact ht) upd_same (by show 1 ≤ 100000; decide) fun z hz => by rw [List.mem_singleton.mp hz]; exact .inr (.inr (.inl ⟨_, rfl, rfl⟩)))
          · have sct : ∀ z : Int, ∀ w ∈ [V.str "stretches", V.int z], sc0 w w := fun z w hw => by
              rcases List.mem_cons.mp hw with e | hw
              · exact e ▸ .inr (.inr (.inl ⟨_, rfl, rfl⟩))
              · rw [List.mem_singleton.mp hw]; exact .inl ⟨_, rfl, rfl⟩
            have nok1 : ¬ RowOk (0, 0, 1) := by unfold RowOk; simp only; omega
            have nok2 : ¬ RowOk (0, 2, 1) := by unfold RowOk; simp only; omega
            have nok3 : ¬ RowOk (8, 1, 1) := by unfold RowOk; simp only; omega
            have bad1 : badAt [(0, 0, 1)] = some 0 := bad18 (rows := []) (fun r h => absurd h (by simp)) nok1
            have bad2 : badAt [(0, 2, 1)] = some 0 := bad18 (rows := []) (fun r h => absurd h (by simp)) nok2
            have bad3 : badAt (rows ++ [(8, 1, 1)]) = some rows.length := bad18 hdr nok3
            refine ⟨S6.td, fun H8 g tab => ?_⟩
            have S8 := S6.growD g tab
            obtain ⟨dx, ob⟩ := S8.lead.ob
            refine ⟨_, rfl, pl o, dx, _, rfl, ob, ll_begin _ _ _ _, by show 3 ≤ sizeLine; decide, fun tr ntr => ?_⟩
            have S9 := S8.quiet ((XM.refl S8.same).lay (o := .tup [.int 0, .int 0, .int 1]) ntr)
            have m9 := same_upd (o := .tup [.int 0, .int 0, .int 1]) (S8.same.free ntr)
            have k9 : kRow.is (upd F6 tr (.tup [.int 0, .int 0, .int 1])) (.ref tr) (0, 0, 1) := ⟨tr, rfl, upd_same⟩
            revert S9 k9 m9
            generalize upd F6 tr (.tup [V.int 0, .int 0, .int 1]) = F9
            generalize upd H8 tr (.tup [V.int 0, .int 0, .int 1]) = H9
            intro S9 m9 k9
            refine ⟨by show 1 ≤ sizeLine; decide, fun l1 nl1 => ?_⟩
            have f1 := S9.same.free nl1
            have S10 := S9.quiet ((XM.refl S9.same).lay (o := .lst [.ref tr]) nl1)
            have k10 : (kL kRow).is (upd F9 l1 (.lst [.ref tr])) (.ref l1) [(0, 0, 1)] := kL_new f1 (.cons k9 .nil)
            have m10 := m9.trans (same_upd (o := .lst [.ref tr]) f1)
            revert S10 k10 m10
            generalize upd F9 l1 (.lst [V.ref tr]) = F10
            generalize upd H9 l1 (.lst [V.ref tr]) = H10
            intro S10 k10 m10
            clear S9 k9 m9 f1 nl1 ntr S8 ob tab g
            refine ⟨F10, pl o, pl (o + 2), pl (o + 3), x.many, x.an, x.kp, x.bg, .ref l1, [(0, 0, 1)], rfl, S10.same, S10.lead, by omega, ft.an.ok m6, k10, by decide, fun i hi => ?_, fun z => (nomatch bad1.symm.trans z)⟩
            obtain rfl : i = 0 := Option.some.inj (hi.symm.trans bad1)
            refine EW.bad fun H11 t1 sm nt ht => ?_
            have S11 := S10.quiet (.of (Ext.ofSame S10.same sm))
            refine ⟨by show 2 ≤ sizeLine; decide, fun t2 nt2 => ?_⟩
            have S12 := S11.quiet ((XM.refl S11.same).tmp (o := .tup [.str "stretches", .int 0]) nt2)
            refine ⟨_, _, rfl, twin_tups (xs := [.str "stretches", .int 0]) (by rw [upd_ne (ne_of_none ht nt2)]; exact ht) upd_same (by show 2 ≤ 100000; decide) (sct 0), true, rfl, iteF ?_⟩
            revert S12
            generalize upd H11 t2 (.tup [V.str "stretches", .int 0]) = H12
            intro S12
            clear S10 S11 k10 ht nt nt2 sm
            -- heard
            refine ⟨S12.td, fun H13 g tab => ?_⟩
            have S13 := S12.growD g tab
            obtain ⟨dx, ob⟩ := S13.lead.ob
            refine ⟨_, rfl, pl o, dx, _, rfl, ob, ll_heard _ _ _ _, _, rfl, by show 3 ≤ sizeLine; decide, fun tr ntr => ?_⟩
            have S14 := S13.quiet ((XM.refl S13.same).lay (o := .tup [.int 0, .int 2, .int 1]) ntr)
            have m14 := m10.trans (same_upd (o := .tup [.int 0, .int 2, .int 1]) (S13.same.free ntr))
            have k14 : kRow.is (upd F10 tr (.tup [.int 0, .int 2, .int 1])) (.ref tr) (0, 2, 1) := ⟨tr, rfl, upd_same⟩
            revert S14 k14 m14
            generalize upd F10 tr (.tup [V.int 0, .int 2, .int 1]) = F14
            generalize upd H13 tr (.tup [V.int 0, .int 2, .int 1]) = H14
            intro S14 m14 k14
            refine ⟨by show 1 ≤ sizeLine; decide, fun l1 nl1 => ?_⟩
            have f1 := S14.same.free nl1
            have S15 := S14.quiet ((XM.refl S14.same).lay (o := .lst [.ref tr]) nl1)
            have k15 : (kL kRow).is (upd F14 l1 (.lst [.ref tr])) (.ref l1) [(0, 2, 1)] := kL_new f1 (.cons k14 .nil)
            have m15 := m14.trans (same_upd (o := .lst [.ref tr]) f1)
            revert S15 k15 m15
            generalize upd F14 l1 (.lst [V.ref tr]) = F15
            generalize upd H14 l1 (.lst [V.ref tr]) = H15
            intro S15 k15 m15
            clear S14 k14 m14 f1 nl1 ntr S13 ob tab g m10
            refine ⟨F15, pl o, pl (o + 2), pl (o + 3), x.many, x.an, x.kp, x.bg, seat, .ref l1, rfl, S15.same, S15.lead, by omega, fun z => absurd ⟨s0, s1⟩ z, fun _ => ⟨[(0, 2, 1)], [], k15, by decide, fun i hi => ?_, fun z => (nomatch bad2.symm.trans z)⟩⟩
            obtain rfl : i = 0 := Option.some.inj (hi.symm.trans bad2)
            refine EW.bad fun H16 t1 sm nt ht => ?_
            have S16 := S15.quiet (.of (Ext.ofSame S15.same sm))
            refine ⟨by show 2 ≤ sizeLine; decide, fun t2 nt2 => ?_⟩
            have S17 := S16.quiet ((XM.refl S16.same).tmp (o := .tup [.str "stretches", .int 0]) nt2)
            refine ⟨_, _, rfl, twin_tups (xs := [.str "stretches", .int 0]) (by rw [upd_ne (ne_of_none ht nt2)]; exact ht) upd_same (by show 2 ≤ 100000; decide) (sct 0), true, rfl, iteF ?_⟩
            revert S17
            generalize upd H16 t2 (.tup [V.str "stretches", .int 0]) = H17
            intro S17
            clear S15 S16 k15 ht nt nt2 sm
            -- kept
            have kr17 := (kL kRow).mono m15 kr6
            obtain ⟨ar', xs17, e17, ha17, hp17⟩ := id kr17
            cases e17
            have lx := pr_len hp17
            refine ⟨S17.td, fun H18 g tab => ?_⟩
            have S18 := S17.growD g tab
            obtain ⟨dx, ob⟩ := S18.lead.ob
            refine ⟨_, rfl, pl o, dx, _, rfl, ob, ll_kept _ _ _ _, _, rfl, _, rfl, by show 3 ≤ sizeLine; decide, fun tr ntr => ?_⟩
            have S19 := S18.quiet ((XM.refl S18.same).lay (o := .tup [.int 8, .int 1, .int 1]) ntr)
            have m19 := same_upd (o := .tup [.int 8, .int 1, .int 1]) (S18.same.free ntr)
            have k19 : kRow.is (upd F15 tr (.tup [.int 8, .int 1, .int 1])) (.ref tr) (8, 1, 1) := ⟨tr, rfl, upd_same⟩
            revert S19 k19 m19
            generalize upd F15 tr (.tup [V.int 8, .int 1, .int 1]) = F19
            generalize upd H18 tr (.tup [V.int 8, .int 1, .int 1]) = H19
            intro S19 m19 k19
            refine ⟨by show 1 ≤ sizeLine; decide, fun l1 nl1 => ?_⟩
            have S20 := S19.quiet ((XM.refl S19.same).tmp (o := .lst [.ref tr]) nl1)
            have h20 : upd H19 l1 (.lst [.ref tr]) l1 = some (.lst [.ref tr]) := upd_same
            revert S20 h20
            generalize upd H19 l1 (.lst [V.ref tr]) = H20
            intro S20 h20
            refine ⟨ar, l1, xs17, [.ref tr], rfl, rfl, S20.same _ _ (m19 _ _ ha17), h20, by show xs17.length + 1 ≤ sizeLine; rw [sizeLine_eq]; omega, fun lb nlb => ?_⟩
            have f21 := S20.same.free nlb
            have S21' := S20.quiet ((XM.refl S20.same).lay (o := .lst (xs17 ++ [.ref tr])) nlb)
            have kbad : (kL kRow).is (upd F19 lb (.lst (xs17 ++ [.ref tr]))) (.ref lb) (rows ++ [(8, 1, 1)]) := kL_new f21 (pr_snoc (pr_mono (fun _ _ z => kRow.mono m19 z) hp17) k19)
            have m21 := m19.trans (same_upd (o := .lst (xs17 ++ [.ref tr])) f21)
            revert S21' kbad m21
            generalize upd F19 lb (.lst (xs17 ++ [V.ref tr])) = F21
            generalize upd H20 lb (.lst (xs17 ++ [V.ref tr])) = H21
            intro S21' kbad m21
            refine ⟨F21, pl o, pl (o + 2), pl (o + 3), x.many, x.an, x.kp, x.bg, seat, .ref lb, rfl, S21'.same, S21'.lead, ft.kp.ok m6, fun z => absurd ⟨s0, s1⟩ z, fun _ => ⟨rows ++ [(8, 1, 1)], [], kbad, by rw [List.length_append]; show rows.length + 1 ≤ 200; omega, fun i hi => ?_, fun z => (nomatch bad3.symm.trans z)⟩⟩
            obtain rfl : i = rows.length := Option.some.inj (hi.symm.trans bad3)
            refine EW.bad fun H22 t1 sm nt ht => ?_
            have S22 := S21'.quiet (.of (Ext.ofSame S21'.same sm))
            refine ⟨_, rfl, _, xs17.length, rfl, .inl ⟨_, SqL.of (S22.same _ _ (m21 _ _ ha17)), rfl⟩, by show 2 ≤ sizeLine; decide, fun t2 nt2 => ?_⟩
            have S23 := S22.quiet ((XM.refl S22.same).tmp (o := .tup [.str "stretches", .int (xs17.length : Nat)]) nt2)
            exact fin F21 _ x _ _ S23 ft (m6'.trans (m15.trans m21)) (twin_tups (xs := [.str "stretches", .int (xs17.length : Nat)]) (by rw [upd_ne (ne_of_none ht nt2), ht, lx]) upd_same (by show 2 ≤ 100000; decide) (sct _))
end
end Rw
namespace Rw
open PySem PySem.Spec PyProof.Rows L2
/-! ### the leads that were made so far -/
structure Sn (K : PySem.W.Frag) (C s : Addr) (ns : List Int) (n : Nat) (pl : Nat → Addr) (F H : Hp) (x : Nat → Dl) : Prop where
  inj : ∀ i j, i < 3 + 6 * n → j < 3 + 6 * n → pl i = pl j → i = j
  dice : DiceAt K F H (pl 0) s ns
  td : LamX.TabS H (pl 1) qDeed22
  fd : F (pl 1) = none
  tl : LamX.TabS H (pl 2) qLaw22
  fl : F (pl 2) = none
  sd : ∀ k, k < n → LeadP C F H pl (3 + 6 * k) (x k) ∧ OwnP F H pl (3 + 6 * k) (x k)
section
variable {K : PySem.W.Frag} {C s : Addr} {ns : List Int} {n : Nat} {pl : Nat → Addr} {F H F' H' : Hp} {x : Nat → Dl}
theorem Sn.quiet (S : Sn K C s ns n pl F H x) (X : XM M0 F H F' H') : Sn K C s ns n pl F' H' x := by
  obtain ⟨p1, h1, _⟩ := S.td
  obtain ⟨p2, h2, _⟩ := S.tl
  exact ⟨S.inj, S.dice.xm X id, TabS.xm2 S.td X id fun _ _ _ m => m.elim, by rw [X.nw _ _ h1 fun xs z => by cases z]; exact S.fd, TabS.xm2 S.tl X id fun _ _ _ m => m.elim, by rw [X.nw _ _ h2 fun xs z => by cases z]; exact S.fl,
    fun k hk => ⟨(S.sd k hk).1.xm X id id id, (S.sd k hk).2.xm X id id id⟩⟩
theorem Sn.drawn (S : Sn K C s ns n pl F H x) (X : Ext (· = pl 0) F H F' H') (D : DiceAt K F' H' (pl 0) s ns) : Sn K C s ns n pl F' H' x := by
  obtain ⟨i, m, r, hd, _⟩ := S.dice.ex
  obtain ⟨p1, h1, _⟩ := S.td
  obtain ⟨p2, h2, _⟩ := S.tl
  have Y := XM.of X
  have nn : ∀ i, i < 3 + 6 * n → 0 ≠ i → ¬ (pl i = pl 0) := fun i hi ne e => ne (S.inj i 0 hi (by omega) e).symm
  have hc : ∀ c o, H c = some o → c = pl 0 → ∀ φ, o ≠ .ext φ := fun c o h e φ z => by
    subst e; subst z; rw [hd] at h; cases h
  exact ⟨S.inj, D, TabS.xm2 S.td Y (nn 1 (by omega) (by decide)) hc, by rw [Y.nw _ _ h1 fun xs z => by cases z]; exact S.fd, TabS.xm2 S.tl Y (nn 2 (by omega) (by decide)) hc, by rw [Y.nw _ _ h2 fun xs z => by cases z]; exact S.fl,
    fun k hk => ⟨(S.sd k hk).1.xm Y (nn _ (by omega) (by omega)) (nn _ (by omega) (by omega)) (nn _ (by omega) (by omega)), (S.sd k hk).2.xm Y (nn _ (by omega) (by omega)) (nn _ (by omega) (by omega)) (nn _ (by omega) (by omega))⟩⟩
theorem Sn.full (S : Sn K C s ns n pl F H x) : ∀ i, i < 3 + 6 * n → H (pl i) ≠ none := by
  intro i hi
  obtain ⟨_, _, _, hd, _⟩ := S.dice.ex
  obtain ⟨p1, h1, _⟩ := S.td
  obtain ⟨p2, h2, _⟩ := S.tl
  by_cases i3 : i < 3
  · match i, i3 with
    | 0, _ => rw [hd]; simp
    | 1, _ => rw [h1]; simp
    | 2, _ => rw [h2]; simp
  · obtain ⟨k, r, hk, hr, rfl⟩ : ∃ k r, k < n ∧ r < 6 ∧ i = 3 + 6 * k + r := ⟨(i - 3) / 6, (i - 3) % 6, by omega, by omega, by omega⟩
    obtain ⟨L, O⟩ := S.sd k hk
    obtain ⟨_, e0⟩ := L.ob
    obtain ⟨_, e2, _⟩ := L.ha
    obtain ⟨_, e3, _⟩ := L.ht
    obtain ⟨_, e4, _⟩ := O.ha
    obtain ⟨_, e5, _⟩ := O.hk
    have e1 := O.hw
    match r, hr with
    | 0, _ => rw [Nat.add_zero, e0]; simp
    | 1, _ => rw [e1]; simp
    | 2, _ => rw [e2]; simp
    | 3, _ => rw [e3]; simp
    | 4, _ => rw [e4]; simp
    | 5, _ => rw [e5]; simp
theorem Sn.app {a : Addr} {vs ys : List V} (S : Sn K C s ns n pl F H x) (ne : pl 0 ≠ a) (f : F a = none) (ha : H a = some (.lst vs)) : Sn K C s ns n pl F (upd H a (.lst ys)) x := by
  have X := (XM.refl (M := (· = a)) S.dice.fh).put (p := a) (o := .lst ys) (.inr rfl) f
  have h : ∀ {c : Addr} {o : HO}, H c = some o → (∀ vs, o ≠ .lst vs) → ¬ (c = a) := fun {c o} h nl e => by
    rw [e, ha] at h; exact nl _ (Option.some.inj h).symm
  obtain ⟨p1, h1, _⟩ := S.td
  obtain ⟨p2, h2, _⟩ := S.tl
  have hc : ∀ c o, H c = some o → c = a → ∀ φ, o ≠ .ext φ := fun c o h e φ z => by
    subst e; subst z; rw [ha] at h; cases h
  refine ⟨S.inj, S.dice.xm X ne, TabS.xm2 S.td X (h h1 fun _ z => by cases z) hc, S.fd, TabS.xm2 S.tl X (h h2 fun _ z => by cases z) hc, S.fl, fun k hk => ?_⟩
  obtain ⟨L, O⟩ := S.sd k hk
  obtain ⟨dx, ob⟩ := L.ob
  obtain ⟨k1, a1, d1⟩ := L.ha
  obtain ⟨k2, a2, d2⟩ := L.ht
  obtain ⟨k3, a3, d3⟩ := O.ha
  obtain ⟨k4, a4, d4⟩ := O.hk
  exact ⟨LeadAt.xm L X (h ob fun _ z => by cases z) (h a1 fun _ z => by cases z) (h a2 fun _ z => by cases z), OwnL.xm O X (h O.hw fun _ z => by cases z) (h a3 fun _ z => by cases z) (h a4 fun _ z => by cases z)⟩
def addP (n : Nat) (pl g : Nat → Addr) : Nat → Addr := fun i => if i < 3 + 6 * n then pl i else g (i - (3 + 6 * n))
theorem addP_old {pl g : Nat → Addr} {i : Nat} (h : i < 3 + 6 * n) : addP n pl g i = pl i := if_pos h
theorem addP_new {pl g : Nat → Addr} (r : Nat) : addP n pl g (3 + 6 * n + r) = g r := by
  unfold addP
  rw [if_neg (by omega), Nat.add_sub_cancel_left]
theorem Sn.add {g : Nat → Addr} {y : Dl} (S : Sn K C s ns n pl F H x) (X : XM M0 F H F' H') (hg : ∀ i, i < 6 → H (g i) = none) (gi : ∀ i j, i < 6 → j < 6 → g i = g j → i = j) (L : LeadP C F' H' g 0 y) (O : OwnP F' H' g 0 y) :
    Sn K C s ns (n + 1) (addP n pl g) F' H' (fun k => if k < n then x k else y) := by
  have T := S.quiet X
  have sm := S.full
  refine ⟨fun i j hi hj e => ?_, by rw [addP_old (by omega)]; exact T.dice, by rw [addP_old (by omega)]; exact T.td, by rw [addP_old (by omega)]; exact T.fd, by rw [addP_old (by omega)]; exact T.tl, by rw [addP_old (by omega)]; exact T.fl, fun k hk => ?_⟩
  · unfold addP at e
    by_cases ci : i < 3 + 6 * n
    · by_cases cj : j < 3 + 6 * n
      · rw [if_pos ci, if_pos cj] at e
        exact S.inj i j ci cj e
      · rw [if_pos ci, if_neg cj] at e
        exact absurd (by rw [e]; exact hg _ (by omega)) (sm i ci)
    · by_cases cj : j < 3 + 6 * n
      · rw [if_neg ci, if_pos cj] at e
        exact absurd (by rw [← e]; exact hg _ (by omega)) (sm j cj)
      · rw [if_neg ci, if_neg cj] at e
        have := gi _ _ (by omega) (by omega) e
        omega
  · by_cases c : k < n
    · have h := T.sd k c
      rw [if_pos c]
      unfold LeadP OwnP
      rw [addP_old (by omega), addP_old (by omega), addP_old (by omega), addP_old (by omega), addP_old (by omega), addP_old (by omega)]
      exact h
    · obtain rfl : k = n := by omega
      rw [if_neg c]
      unfold LeadP OwnP
      rw [addP_new 2, addP_new 3, addP_new 1, addP_new 4, addP_new 5, show addP k pl g (3 + 6 * k) = g 0 from addP_new 0]
      exact ⟨L, O⟩
theorem Sn.s2 (S : Sn K C s ns 2 pl F H x) : S2 K C s ns pl F H 3 9 (x 0) (x 0) (x 1) :=
  ⟨fun i j hi hj => S.inj i j (by omega) (by omega), by decide, S.dice, S.td, S.fd, S.tl, S.fl, (S.sd 0 (by decide)).1, (S.sd 0 (by decide)).2, (S.sd 1 (by decide)).1, (S.sd 1 (by decide)).2⟩
theorem six_inj {p w aa ta a2 k2 : Addr} (nd : [p, w, aa, ta, a2, k2].Nodup) : ∀ i j, i < 6 → j < 6 → [p, w, aa, ta, a2, k2].getD i p = [p, w, aa, ta, a2, k2].getD j p → i = j := by
  intro i j hi hj e
  rw [List.getD_eq_getElem?_getD, List.getD_eq_getElem?_getD, List.getElem?_eq_getElem (by simpa using hi), List.getElem?_eq_getElem (by simpa using hj)] at e
  exact (List.getElem_inj nd).mp e
end
end Rw
namespace Rw
open PySem PySem.Spec PyProof.Rows L2
/-- what is due: rows, or that it's too early -/
def Wt (F : Hp) (v : V) (b : Prop) (m : Pt → Prop) : Prop := (b ∧ ∃ a vs rs, v = .ref a ∧ F a = some (.lst vs) ∧ Paired (kRow.is F) vs rs ∧ Canon rs ∧ (∀ q, mem rs q ↔ m q) ∧ rs.length ≤ 18) ∨ (¬ b ∧ ∃ t, v = .ref t ∧ F t = some (.tup [.str "not yet"]))
theorem Wt.mono {F F' : Hp} {v : V} {b : Prop} {m : Pt → Prop} (s : Same F F') : Wt F v b m → Wt F' v b m
  | .inl ⟨hb, a, vs, rs, e, h, p, c, q, l⟩ => .inl ⟨hb, a, vs, rs, e, s _ _ h, pr_mono (fun _ _ z => kRow.mono s z) p, c, q, l⟩
  | .inr ⟨hb, t, e, h⟩ => .inr ⟨hb, t, e, s _ _ h⟩
inductive Fit2 (d : Addr) (F H : Hp) : V → V → Prop where
  | rows {a b : Addr} {vs us : List V} {out : List Row} (nd : d ≠ a) (ha : H a = some (.lst vs)) (fa : F a = none) (pa : Paired (kRow.is F) vs out) (hb : F b = some (.lst us)) (pb : Paired (kRow.is F) us out) (l : out.length ≤ 18) : Fit2 d F H (.ref a) (.ref b)
  | late {a b : Addr} (ha : H a = some (.tup [.str "not yet"])) (hb : H b = some (.tup [.str "not yet"])) : Fit2 d F H (.ref a) (.ref b)
theorem Fit2.xm {d : Addr} {F H F' H' : Hp} {v u : V} (X : XM M0 F H F' H') : Fit2 d F H v u → Fit2 d F' H' v u
  | .rows nd ha fa pa hb pb l => .rows nd (X.hh _ _ ha id) (by rw [X.nw _ _ ha fun xs z => by cases z]; exact fa) (pr_mono (fun _ _ z => kRow.mono X.ff z) pa) (X.ff _ _ hb) (pr_mono (fun _ _ z => kRow.mono X.ff z) pb) l
  | .late ha hb => .late (X.hh _ _ ha id) (X.hh _ _ hb id)
theorem Fit2.twin {d : Addr} {F H : Hp} {v u : V} {n : Nat} (s : Same F H) : Fit2 d F H v u → Twin H (n + 3) v u
  | .rows nd ha fa pa hb pb l => twin_rows s ha (s _ _ hb) pa pb (by omega)
  | .late ha hb => (twin_tups ha hb (by show 1 ≤ 100000; decide) fun z hz => by rw [List.mem_singleton.mp hz]; exact .inr (.inr (.inl ⟨_, rfl, rfl⟩)))
theorem Fit2.ne {d l : Addr} {F H : Hp} {v u : V} (n : H l = none) : Fit2 d F H v u → v ≠ .ref l
  | .rows nd ha fa pa hb pb h => fun e => by cases e; rw [n] at ha; cases ha
  | .late ha hb => fun e => by cases e; rw [n] at ha; cases ha
theorem Fit2.spoil {d a : Addr} {F H : Hp} {v u : V} {vs ys : List V} (h0 : H a = some (.lst vs)) (ne : v ≠ .ref a) : Fit2 d F H v u → Fit2 d F (upd H a (.lst ys)) v u
  | .rows nd ha fa pa hb pb h => .rows nd (by rw [upd_ne fun e => ne (by rw [e])]; exact ha) fa pa hb pb h
  | .late ha hb => .late (by rw [upd_ne fun e => ne (by rw [e])]; exact ha) (by rw [upd_ne fun e => by rw [e, h0] at hb; cases hb]; exact hb)
theorem twin_bl {H : Hp} {n : Nat} (b : Bool) : Twin H (n + 1) (.bl b) (.bl b) := .inl (.inr (.inl ⟨b, rfl, rfl⟩))
theorem told_join {X : Cx} {P : Addr} {tb : XK → TE} {σ : L2.St} {H : Hp} {Q : VK} (J : V → Hp → Prop) (h : ∀ v H', J v H' → Q v H') (k : (∀ v H', J v H' → Q v H') → tTold1 X P tb σ H Q) : tTold1 X P tb σ H Q := k h
end Rw
set_option maxHeartbeats 4000000
namespace Rw
open PySem PySem.Spec PyProof.Rows L2
theorem sc_law22 : FnScope ["_law_script", "_law_d", "_law_sides", "_law_k", "_law_many", "_law_turn", "_law_lead", "_law_own", "_law_found", "_law_due", "_law_other", "_law_must", "_law_seat", "_law_wanted", "_law_shown_here", "_law_told_here", "_law_one"] ["_law_script"] (defScope s_law) := ⟨rfl, rfl, rfl, by decide +kernel, rfl, by decide +kernel, by decide +kernel⟩
theorem but_seqT {K : PySem.W.Frag} {H : Hp} {s p : Addr} {ns : List V} {pp : Array Value} (hP : H p = some (.tbl pp)) (h : SqL K H s ns) : SqL K (but H p) s ns := by
  rcases h with (h | ⟨o, h⟩) | h
  · exact .inl (.inl (by rw [but_at fun e => by rw [e, hP] at h; cases h]; exact h))
  · exact .inl (.inr ⟨o, by rw [but_at fun e => by rw [e, hP] at h; cases h]; exact h⟩)
  · exact .inr h
/-- a new instance was made -/
theorem Ext.made {F H F' H'' : Hp} {x dx C : Addr} (s : Same F H) (nx : H x = none) (nd : H dx = none) (ne : dx ≠ x) (X : Ext (· = x) F (upd (upd H dx (.own x)) x (.ins C dx [])) F' H'') : Ext M0 F H F' H'' := by
  refine ⟨X.ff, X.fh, fun b o e _ => ?_, fun b e => ?_, fun b e => ?_⟩
  · refine X.hh b o ?_ (ne_of_none e nx)
    rw [upd_ne (ne_of_none e nx), upd_ne (ne_of_none e nd)]
    exact e
  · refine X.tr b ?_
    by_cases h1 : b = x
    · rw [h1, upd_same]; simp
    · rw [upd_ne h1]
      by_cases h2 : b = dx
      · rw [h2, upd_same]; simp
      · rw [upd_ne h2]; exact e
  · refine X.new b ?_
    by_cases h1 : b = x
    · rw [h1, upd_same]; simp
    · rw [upd_ne h1]
      by_cases h2 : b = dx
      · rw [h2, upd_same]; simp
      · rw [upd_ne h2]; exact e
def spLaw22 (K : PySem.W.Frag) (Pd Pl : Addr) : Sp := fun vs H Q _ => ∃ (s : Addr) (ns : List Int), vs = [.ref s] ∧ SqL K H s (ns.map V.int) ∧ H Pd = some (.tbl #[]) ∧ H Pl = some (.tbl #[]) ∧ Pd ≠ Pl ∧ ∀ H', Q (.bl true) H'
structure Deps22L (P : Program) (w : World) (K : PySem.W.Frag) (mg : Str → Option Value) (base : Heap) (C Pd Pl : Addr) : Prop where
  dice : Cal P w K mg base 1 "_law_dice" ["_law_script"] (spDice K)
  next : Cal P w K mg base 1 "_law_next" ["_law_dice_here", "_law_many"] (spNext K)
  told : Cal P w K mg base 1 "_law_told_rows" ["_law_names_here"] spTold
  shown : Cal P w K mg base 1 "_law_shown" ["_law_many", "_law_kept"] spLShown
  like : Cal P w K mg base 5 "_law_like" ["_law_found", "_law_due"] (spLike 4)
  deed : Cal P w K mg base 9 "_law_deed" ["_law_d", "_law_lead", "_law_own"] (spDeed22 K C Pd)
  must : CalMX P w K mg base C 5 "must" ["self"] (spMust K C)
  mshown : CalMX P w K mg base C 5 "shown" ["self"] (spShown K C)
  leads : CalM P w K mg base C 1 "leads" ["self"] (spLeads C)
section
variable {P : Program} {w : World} {K : PySem.W.Frag} {mg : Str → Option Value} {base : Heap} {C Pd Pl : Addr}
theorem ok_law {f c : Addr} {fd : FuncData} {fI : Addr} {fdI : FuncData} {ft : Addr} {fdt : FuncData} (F0 : FunC K "law" "law" s_law f c fd) (TBl : LamX.TabB base mg c Pl) (T : TxQ K mg C) (TU : TxU mg) (TK : TxK mg) (TC : ToldC K mg) (Ft : Fun K "_law_told" "_law_told" s_law_told ft fdt) (gt : mg "_law_told" = some (.ref ft))
    (hrng : mg "range" = none) (D : Deps22L P w K mg base C Pd Pl) (MK : Mk K C fI) (gS : mg "Lead" = some (.ref C)) (GI : FnOk P w K mg base CX0 3 fI fdI ["self", "many"] (spQInit C)) (bI : Binds K fdI ["self", "many"] []) :
    FnOk P w K mg base CX0 10 f fd ["_law_script"] (spLaw22 K Pd Pl) := by
  obtain ⟨fD, fdD, GD, gD, kpD, bD⟩ := D.dice
  obtain ⟨fN, fdN, GN, gN, kpN, bN⟩ := D.next
  obtain ⟨fT, fdT, GT, gT, kpT, bT⟩ := D.told
  obtain ⟨fS, fdS, GS, gSh, kpS, bS⟩ := D.shown
  obtain ⟨fL, fdL, GL, gL, kpL, bL⟩ := D.like
  obtain ⟨fX, fdX, GX, gX, kpX, bX⟩ := D.deed
  obtain ⟨fM, fdM, GM, mM, bM⟩ := D.must
  obtain ⟨fH, fdH, GH, mH, bH⟩ := D.mshown
  obtain ⟨fE, fdE, GE, mE, bE⟩ := D.leads
  refine F0.ok sc_law22 (fun vs H Q E h => ?_) (fun A outer s0 H vs Q E hr h => ?_)
  · obtain ⟨s, ns, rfl, _⟩ := h
    rfl
  · obtain ⟨s, ns, rfl, hs, htd, htl, hP, q⟩ := h
    have hr1 : Room 1 _ := hr.mono (by decide)
    have hr3 : Room 4 _ := hr.mono (by decide)
    have hr5 : Room 5 _ := hr.mono (by decide)
    have hu := hu_of hr
    refine ⟨_, (pss_cons (ps_set (i := 1) sc_law22.nd rfl (.inl rfl) (pe_call GD hr1 (by rfl) gD kpD bD .nil pass0 (pa_cons (pv 0) pa_nil)))
      (pss_cons (ps_set (i := 2) sc_law22.nd rfl (.inl rfl) (pe_lst pa_nil))
      (pss_cons (ps_for PassesOwn.never rfl (pi_range1 (by rfl) hrng (pa_cons pe_int pa_nil)) (pg_name (i := 3) sc_law22.nd rfl (.inl rfl))
      (pss_cons (ps_set (i := 4) sc_law22.nd rfl (.inl rfl) (pe_op op_add pe_int (pe_call GN hr1 (by rfl) gN kpN bN .nil pass0 (pa_cons (pv 1) (pa_cons pe_int pa_nil)))))
      (pss_one (ps_expr (pe_bm PySem.F.plainAttrs_list PySem.F.slot_list_append PySem.F.type_list_append mt_append (pv 2) (pa_cons (pe_tup (pa_cons (pe_make MK GI hr3 (by rfl) gS bI .nil pass0 (pa_cons (pv 4) pa_nil)) (pa_cons (pe_disp (pps_cons pe_str (pv 4) (pps_cons pe_str pe_dnewK (pps_cons pe_str pe_bl (pps_cons pe_str pe_dnewK pps_nil)))) (by rfl) (by rfl) (fun z => by cases z) (by decide)) pa_nil))) pa_nil))))))
      (pss_cons (ps_for PassesOwn.never rfl (pi_range1 (by rfl) hrng (pa_cons (pe_call GN hr1 (by rfl) gN kpN bN .nil pass0 (pa_cons (pv 1) (pa_cons pe_int pa_nil))) pa_nil)) (pg_name (i := 5) sc_law22.nd rfl (.inl rfl))
      (pss_cons (ps_asg (pe_ix ix_list (pv 2) (pe_call GN hr1 (by rfl) gN kpN bN .nil pass0 (pa_cons (pv 1) (pa_cons pe_int pa_nil))) (fun _ _ => rfl)) (pg_tup (by rfl) (pgs_cons (pg_name (i := 6) sc_law22.nd rfl (.inl rfl)) (pgs_cons (pg_name (i := 7) sc_law22.nd rfl (.inl rfl)) pgs_nil))))
      (pss_cons (ps_asg (pe_call GX hr (by rfl) gX kpX bX .nil pass0 (pa_cons (pv 1) (pa_cons (pv 6) (pa_cons (pv 7) pa_nil)))) (pg_tup (by rfl) (pgs_cons (pg_name (i := 8) sc_law22.nd rfl (.inl rfl)) (pgs_cons (pg_name (i := 9) sc_law22.nd rfl (.inl rfl)) pgs_nil))))
      (pss_cons (ps_if (pt_not (pt_val (pe_call GL hr5 (by rfl) gL kpL bL .nil pass0 (pa_cons (pv 8) (pa_cons (pv 9) pa_nil))))) (pss_one (ps_ret pe_bl)) pss_nil)
      (pss_one (ps_for PassesOwn.never rfl (pi_list (pv 2)) (pg_tup (by rfl) (pgs_cons (pg_name (i := 16) sc_law22.nd rfl (.inr rfl)) (pgs_cons (pg_name (i := 10) sc_law22.nd rfl (.inl rfl)) pgs_nil)))
      (pss_cons (ps_set (i := 11) sc_law22.nd rfl (.inl rfl) (pe_lst pa_nil))
      (pss_cons (ps_lock (ps_for PassesOwn.never rfl (pi_keys (pe_dget hu (pv 10) pe_str (fun _ _ => rfl))) (pg_name (i := 12) sc_law22.nd rfl (.inl rfl))
      (pss_one (ps_set (i := 11) sc_law22.nd rfl (.inl rfl) (pe_callB (cr_sortBig (by rfl)) (by rfl) TU.sorted (by decide +kernel) (pa_cons (pe_callTy (cr_setBig (by rfl) hr.units) (by rfl) TU.set (by decide +kernel) (pa_cons (pe_op op_cat (pv 11) (pe_dget hu (pe_dget hu (pv 10) pe_str (fun _ _ => rfl)) (pv 12) (fun _ _ => rfl))) pa_nil)) pa_nil))))))
      (pss_cons (ps_set (i := 13) sc_law22.nd rfl (.inl rfl) (pe_ifExp (pt_cmpR op_gt (pe_op op_mul pe_int (pe_callB call_lenD (by rfl) TU.len PySem.boot_len (pa_cons (pe_dget hu (pv 10) pe_str (fun _ _ => rfl)) pa_nil))) (pe_dget hu (pv 10) pe_str (fun _ _ => rfl)) (nomark _)) (pe_call GT hr1 (by rfl) gT kpT bT .nil pass0 (pa_cons (pv 11) pa_nil)) (pe_tup (pa_cons pe_str pa_nil))))
      (pss_cons (ps_set (i := 14) sc_law22.nd rfl (.inl rfl) (pe_ifExp (pt_val (pe_dget hu (pv 10) pe_str (fun _ _ => rfl))) (pe_call GT hr1 (by rfl) gT kpT bT .nil pass0 (pa_cons (pe_call GS hr1 (by rfl) gSh kpS bS .nil pass0 (pa_cons (pe_dget hu (pv 10) pe_str (fun _ _ => rfl)) (pa_cons (pe_dget hu (pv 10) pe_str (fun _ _ => rfl)) pa_nil))) pa_nil)) (pe_tup (pa_cons pe_str pa_nil))))
      (pss_cons (ps_set (i := 15) sc_law22.nd rfl (.inl rfl) (pe_lst (pa_cons (pe_told1 (k := 7) .no TC Ft (by rfl) gt hr TBl rfl (by kernel_rfl) ⟨rfl, rfl⟩ (fun _ _ _ _ _ _ => rfl) fun E A outer s H f c' hr7 =>
        pe_meth0 (pv 16) T.cl mM GM (hr7.mono (by decide)) bM .nil (passes_call (E := E) (takes_of rfl rfl rfl rfl) fun _ _ _ _ h => h)) (pa_cons (pe_meth0 (pv 16) T.cl mE GE hr1 bE .nil pass0) (pa_cons (pe_told1 (k := 7) (.one "_law_a" 0) TC Ft (by rfl) gt hr TBl rfl (by kernel_rfl) ⟨⟨_, _, rfl⟩, rfl⟩ (fun _ _ _ _ _ _ _ => ⟨_, rfl, fun _ => rfl⟩) fun E A outer s H f c' hr7 =>
        pe_meth0 (pv 16) T.cl mH GH (hr7.mono (by decide)) bH .nil (passes_call (E := E) (takes_of rfl rfl rfl rfl) fun _ _ _ _ h => h)) pa_nil)))))
      (pss_cons (ps_if (pt_not (pt_val (pe_call GL hr5 (by rfl) gL kpL bL .nil pass0 (pa_cons (pv 15) (pa_cons (pe_lst (pa_cons (pv 13) (pa_cons (pe_dget hu (pv 10) pe_str (fun _ _ => rfl)) (pa_cons (pv 14) pa_nil)))) pa_nil))))) (pss_one (ps_ret pe_bl)) pss_nil)
      (pss_cons (ps_if (pt_val (pe_callB call_isi (by rfl) TK.isinst (by decide +kernel) (pa_cons (pe_ix ix_list (pv 15) pe_int (fun _ _ => rfl)) (pa_cons (pe_bty (by rfl) TK.list bt_list) pa_nil)))) (pss_one (ps_expr (pe_bm PySem.F.plainAttrs_list PySem.F.slot_list_append PySem.F.type_list_append mt_append (pe_ix ix_list (pv 15) pe_int (fun _ _ => rfl)) (pa_cons pe_int pa_nil)))) pss_nil)
      (pss_one (ps_if (pt_val (pe_callB call_isi (by rfl) TK.isinst (by decide +kernel) (pa_cons (pe_ix ix_list (pv 15) pe_int (fun _ _ => rfl)) (pa_cons (pe_bty (by rfl) TK.list bt_list) pa_nil)))) (pss_one (ps_expr (pe_bm PySem.F.plainAttrs_list PySem.F.slot_list_append PySem.F.type_list_append mt_append (pe_ix ix_list (pv 15) pe_int (fun _ _ => rfl)) (pa_cons pe_int pa_nil)))) pss_nil)))))))))))))))
      (pss_one (ps_ret pe_bl)))))), ?_⟩
    refine ⟨_, rfl, s, ns, rfl, hs, fun d m nd gd => ?_⟩
    have hB : but H Pd Pl = some (.tbl #[]) := by rw [but_at (Ne.symm hP)]; exact htl
    have sF : Same (but (but H Pd) Pl) H := (but_same (H := but H Pd) (o := Pl)).trans but_same
    have sB : Same (but (but H Pd) Pl) (upd H d (dice s 0 m 0)) := sF.trans (same_upd nd)
    have nPd : d ≠ Pd := fun e => by rw [e, htd] at nd; cases nd
    have nPl : d ≠ Pl := fun e => by rw [e, htl] at nd; cases nd
    have S0 : Sn K C s ns 0 (fun i => match i with | 0 => d | 1 => Pd | _ => Pl) (but (but H Pd) Pl) (upd H d (dice s 0 m 0)) (fun _ => ⟨2, [], [], false⟩) := by
      refine ⟨fun i j hi hj e => ?_, ⟨sB, sF.free nd, but_seqT hB (but_seqT htd hs), 0, m, 0, upd_same, gd⟩, LamX.TabS.nil (by show upd H d _ Pd = _; rw [upd_ne nPd.symm]; exact htd), ?_, LamX.TabS.nil (by show upd H d _ Pl = _; rw [upd_ne nPl.symm]; exact htl), but_self, fun k hk => absurd hk (by omega)⟩
      · have hi' : i < 3 := by omega
        have hj' : j < 3 := by omega
        match i, j, hi', hj' with
        | 0, 0, _, _ => rfl
        | 0, 1, _, _ => exact absurd e nPd
        | 0, 2, _, _ => exact absurd e nPl
        | 1, 0, _, _ => exact absurd e.symm nPd
        | 1, 1, _, _ => rfl
        | 1, 2, _, _ => exact absurd e hP
        | 2, 0, _, _ => exact absurd e.symm nPl
        | 2, 1, _, _ => exact absurd e.symm hP
        | 2, 2, _, _ => rfl
      · show but (but H Pd) Pl Pd = none
        rw [but_at hP]; exact but_self
    obtain ⟨pl0, h0, h1, h2, S0⟩ : ∃ pl0 : Nat → Addr, pl0 0 = d ∧ pl0 1 = Pd ∧ pl0 2 = Pl ∧ Sn K C s ns 0 pl0 (but (but H Pd) Pl) (upd H d (dice s 0 m 0)) (fun _ => ⟨2, [], [], false⟩) := ⟨_, rfl, rfl, rfl, S0⟩
    subst h0
    revert S0
    generalize upd H (pl0 0) (dice s 0 m 0) = H0
    generalize but (but H Pd) Pl = F0'
    intro S0
    clear hB sF sB nPd nPl nd gd hs htd htl
    refine ⟨Nat.zero_le _, fun Lp nLp => ?_⟩
    have S1 := S0.quiet ((XM.refl S0.dice.fh).tmp (o := .lst []) nLp)
    have fL := S0.dice.fh.free nLp
    have nL0 := S0.dice.ne nLp
    refine ⟨2, rfl, by decide, by decide, for_range (lo := 0) (n := (2 : Int).toNat) (fun k σ H' => ∃ F' pl x ts y3 y4, σ = [some (.ref s), some (.ref (pl 0)), some (.ref Lp), y3, y4, none, none, none, none, none, none, none, none, none, none, none, none] ∧ Sn K C s ns k pl F' H' x ∧ pl 0 = pl0 0 ∧ pl 1 = Pd ∧ pl 2 = Pl ∧
        (∀ j, j < k → ∃ m, 2 ≤ m ∧ m ≤ 6 ∧ x j = ⟨m, [], [], false⟩) ∧ H' Lp = some (.lst ts) ∧ F' Lp = none ∧ ts.length = k ∧ ∀ j, j < k → ∃ t, ts[j]? = some (.ref t) ∧ F' t = some (.tup [.ref (pl (3 + 6 * j)), .ref (pl (3 + 6 * j + 1))]))
      ⟨F0', pl0, _, [], _, _, rfl, S1, rfl, h1, h2, fun j hj => absurd hj (by omega), upd_same, fL, rfl, fun j hj => absurd hj (by omega)⟩ ?_ ?_⟩
    · rintro k σ H1 hk ⟨F1, pl, x, ts, y3, y4, rfl, S, e0, e1, e2, hx, hL, fL1, lt, hts⟩
      refine ⟨_, rfl, F1, pl 0, s, ns, 5, rfl, S.dice, by decide, by decide, fun z H2 z0 z1 X2 D2 => ⟨_, _, rfl, rfl, ?_⟩⟩
      have S2' := S.drawn X2 D2
      have dL : pl 0 ≠ Lp := by rw [e0]; exact nL0
      have hL2 := X2.hh _ _ hL dL.symm
      refine ⟨_, rfl, .inl ⟨rfl, _, SqL.of hL2⟩, _, rfl, ?_⟩
      intro x1 dx1 nx1 ndx1 ne1
      have sm1 : Same F1 (upd (upd H2 dx1 (.own x1)) x1 (.ins C dx1 [])) := S2'.dice.fh.trans ((same_upd ndx1).trans (same_upd (by rw [upd_ne ne1.symm]; exact nx1)))
      refine ⟨F1, x1, dx1, 2 + z, rfl, by omega, by omega, sm1, upd_same, S2'.dice.fh.free nx1, fun FA HA aa ta XA na nta nat A => ⟨rfl, ?_⟩⟩
      have Y := XM.of (Ext.made S2'.dice.fh nx1 ndx1 ne1 XA)
      have old : ∀ {b : Addr}, upd (upd H2 dx1 (.own x1)) x1 (.ins C dx1 []) b = none → H2 b = none := fun {b} h => by
        have h1 : b ≠ x1 := fun e => by rw [e, upd_same] at h; cases h
        rw [upd_ne h1] at h
        have h2 : b ≠ dx1 := fun e => by rw [e, upd_same] at h; cases h
        rwa [upd_ne h2] at h
      have oaa := old na
      have ota := old nta
      clear old sm1 XA na nta
      have npa := A.npa
      have npt := A.npt
      intro w nw
      refine ⟨_, rfl, ?_⟩
      intro a2 na2 k2 nk2
      have w_a2 : w ≠ a2 := fun e => by rw [← e, upd_same] at na2; cases na2
      have w_k2 : w ≠ k2 := fun e => by rw [← e, upd_ne w_a2, upd_same] at nk2; cases nk2
      have a2_k2 : a2 ≠ k2 := fun e => by rw [← e, upd_same] at nk2; cases nk2
      rw [upd_ne w_a2.symm] at na2
      rw [upd_ne a2_k2.symm, upd_ne w_k2.symm] at nk2
      obtain ⟨dxL, obL⟩ := A.ob
      obtain ⟨kv1, haL, _⟩ := A.ha
      obtain ⟨kv2, htL, _⟩ := A.ht
      have nd6 : [x1, w, aa, ta, a2, k2].Nodup := by
        simp only [List.nodup_cons, List.mem_cons, List.not_mem_nil, or_false, not_or, List.nodup_nil, and_true, not_false_eq_true]
        exact ⟨⟨ne_of_none obL nw, npa, npt, ne_of_none obL na2, ne_of_none obL nk2⟩, ⟨(ne_of_none haL nw).symm, (ne_of_none htL nw).symm, w_a2, w_k2⟩, ⟨nat, ne_of_none haL na2, ne_of_none haL nk2⟩, ⟨ne_of_none htL na2, ne_of_none htL nk2⟩, a2_k2⟩
      refine ⟨by rw [upd_ne w_k2, upd_ne w_a2, upd_same], [(.inr "many", .int (2 + z)), (.inr "answers", .ref a2), (.inr "begun", .bl false), (.inr "kept", .ref k2)], rfl, by show 4 ≤ 15; decide, ?_⟩
      have fw := Y.fh.free nw
      have n2 : upd HA w (.dK []) a2 = none := by rw [upd_ne w_a2.symm]; exact na2
      have n3 : upd (upd HA w (.dK [])) a2 (.dK []) k2 = none := by rw [upd_ne a2_k2.symm, upd_ne w_k2.symm]; exact nk2
      have Z : XM M0 FA HA FA (upd (upd (upd (upd HA w (.dK [])) a2 (.dK [])) k2 (.dK [])) w (.dK (mergeK [] [(.inr "many", .int (2 + z)), (.inr "answers", .ref a2), (.inr "begun", .bl false), (.inr "kept", .ref k2)]))) := ((((XM.refl Y.fh).tmp nw).tmp n2).tmp n3).put (.inl nw) fw
      have YZ : XM M0 F1 H2 FA (upd (upd (upd (upd HA w (.dK [])) a2 (.dK [])) k2 (.dK [])) w (.dK (mergeK [] [(.inr "many", .int (2 + z)), (.inr "answers", .ref a2), (.inr "begun", .bl false), (.inr "kept", .ref k2)]))) := (((Y.tmp nw).tmp n2).tmp n3).put (.inl (Y.free nw)) fw
      have A1 := A.xm Z id id id
      have O1 : OwnL FA (upd (upd (upd (upd HA w (.dK [])) a2 (.dK [])) k2 (.dK [])) w (.dK (mergeK [] [(.inr "many", .int (2 + z)), (.inr "answers", .ref a2), (.inr "begun", .bl false), (.inr "kept", .ref k2)]))) w a2 k2 (2 + z) [] [] false :=
        ⟨upd_same, fw, ⟨[], by rw [upd_ne w_a2.symm, upd_ne a2_k2, upd_same], .nil⟩, Y.fh.free na2, ⟨[], by rw [upd_ne w_k2.symm, upd_same], .nil⟩, Y.fh.free nk2⟩
      have ox1 := nx1
      have ow := Y.free nw
      have oa2 := Y.free na2
      have ok2 := Y.free nk2
      clear Z n2 n3 fw A Y nw na2 nk2 obL haL htL
      revert YZ A1 O1
      generalize upd (upd (upd (upd HA w (.dK [])) a2 (.dK [])) k2 (.dK [])) w (.dK (mergeK [] [((.inr "many" : Key), V.int (2 + z)), (.inr "answers", .ref a2), (.inr "begun", .bl false), (.inr "kept", .ref k2)])) = HB
      intro YZ A1 O1
      refine ⟨by show 2 ≤ sizeLine; decide, fun tt ntt => ?_⟩
      have YT := YZ.lay (o := .tup [.ref x1, .ref w]) ntt
      have Z1 := (XM.refl (M := M0) YZ.fh).lay (o := .tup [.ref x1, .ref w]) ntt
      have A2 := A1.xm Z1 id id id
      have O2 := O1.xm Z1 id id id
      have hT : upd FA tt (.tup [.ref x1, .ref w]) tt = some (.tup [.ref x1, .ref w]) := upd_same
      clear Z1 A1 O1 YZ ntt
      revert YT A2 O2 hT
      generalize upd FA tt (.tup [V.ref x1, .ref w]) = FT
      generalize upd HB tt (.tup [V.ref x1, .ref w]) = HT
      intro YT A2 O2 hT
      have hLT := YT.hh _ _ hL2 id
      have fLT : FT Lp = none := by rw [YT.nw _ _ hL2 fun xs z => by cases z]; exact fL1
      refine ⟨Lp, ts, _, rfl, rfl, hLT, by rw [sizeLine_eq, lt]; omega, ?_⟩
      have SA := S2'.add (g := fun i => [x1, w, aa, ta, a2, k2].getD i x1) (y := ⟨2 + z, [], [], false⟩) YT (fun i hi => by
        match i, hi with
        | 0, _ => exact ox1
        | 1, _ => exact ow
        | 2, _ => exact oaa
        | 3, _ => exact ota
        | 4, _ => exact oa2
        | 5, _ => exact ok2) (six_inj nd6) A2 O2
      have z0' : addP k pl (fun i => [x1, w, aa, ta, a2, k2].getD i x1) 0 = pl 0 := addP_old (by omega)
      have z2' : addP k pl (fun i => [x1, w, aa, ta, a2, k2].getD i x1) 2 = pl 2 := addP_old (by omega)
      have z1' : addP k pl (fun i => [x1, w, aa, ta, a2, k2].getD i x1) 1 = pl 1 := addP_old (by omega)
      refine ⟨FT, addP k pl (fun i => [x1, w, aa, ta, a2, k2].getD i x1), _, ts ++ [.ref tt], _, _, by rw [z0']; rfl, SA.app (by rw [z0']; exact dL) fLT hLT, by rw [z0']; exact e0, by rw [z1']; exact e1, by rw [z2']; exact e2, fun j hj => ?_, upd_same, fLT, by rw [List.length_append, lt]; rfl, fun j hj => ?_⟩
      · by_cases c : j < k
        · obtain ⟨m, h1, h2, h3⟩ := hx j c
          exact ⟨m, h1, h2, by rw [if_pos c]; exact h3⟩
        · exact ⟨2 + z, by omega, by omega, by rw [if_neg c]⟩
      · by_cases c : j < k
        · obtain ⟨t, h1, h2⟩ := hts j c
          refine ⟨t, by rw [List.getElem?_append_left (by omega)]; exact h1, ?_⟩
          rw [addP_old (by omega), addP_old (by omega)]
          exact YT.ff _ _ (by exact h2)
        · obtain rfl : j = k := by omega
          refine ⟨tt, by rw [← lt, List.getElem?_append_right (Nat.le_refl _), Nat.sub_self]; rfl, ?_⟩
          rw [addP_new 1, show addP j pl (fun i => [x1, w, aa, ta, a2, k2].getD i x1) (3 + 6 * j) = x1 from addP_new 0]
          exact hT
    · rintro σ H1 ⟨F1, pl, x, ts, y3, y4, rfl, S, e0, e1, e2, hx, hL, fL1, lt, hts⟩
      obtain ⟨t0, ht0, hT0⟩ := hts 0 (by decide)
      obtain ⟨t1, ht1, hT1⟩ := hts 1 (by decide)
      obtain ⟨m0, m02, m06, ex0⟩ := hx 0 (by decide)
      obtain ⟨m1, m12, m16, ex1⟩ := hx 1 (by decide)
      have ets : ts = [.ref t0, .ref t1] := by
        match ts, lt, ht0, ht1 with
        | [a, b], _, h0, h1 =>
          simp only [List.getElem?_cons_zero, List.getElem?_cons_succ, Option.some.injEq] at h0 h1
          rw [h0, h1]
      subst ets
      subst e2
      have dL : pl 0 ≠ Lp := by rw [e0]; exact nL0
      have fx0 : FitD (x 0) := by rw [ex0]; exact ⟨m02, m06, EFit.nil, EFit.nil⟩
      have fx1 : FitD (x 1) := by rw [ex1]; exact ⟨m12, m16, EFit.nil, EFit.nil⟩
      have S2x := S.s2.fz dL fL1 hL
      have fL : upd F1 Lp (.lst [.ref t0, .ref t1]) Lp = some (.lst [.ref t0, .ref t1]) := upd_same
      have f0 := same_upd (o := .lst [.ref t0, .ref t1]) fL1 _ _ hT0
      have f1 := same_upd (o := .lst [.ref t0, .ref t1]) fL1 _ _ hT1
      generalize x 0 = xa at S2x fx0
      generalize x 1 = xb at S2x fx1
      clear ht0 ht1 hT0 hT1 hts hx ex0 ex1 m02 m06 m12 m16 lt S S1 S0 nLp hL
      revert S2x fL f0 f1
      generalize upd F1 Lp (.lst [V.ref t0, .ref t1]) = F2
      intro fL f0 f1 S2x
      refine ⟨_, rfl, F2, pl 0, s, ns, 61, rfl, S2x.dice, by decide, by decide, fun n H4 n0 n1 X4 D4 => ?_⟩
      have S4 := S2x.drawn X4 D4
      clear X4 D4 S2x
      refine ⟨n, rfl, by omega, by omega, for_range (lo := 0) (n := n.toNat) (fun i σ H' => ∃ F' x y y3 y4 y5 y6 y7 y8 y9 y10 y11 y12 y13 y14 y15 y16, σ = [some (.ref s), some (.ref (pl 0)), some (.ref Lp), y3, y4, y5, y6, y7, y8, y9, y10, y11, y12, y13, y14, y15, y16] ∧ S2 K C s ns pl F' H' 3 9 x x y ∧ FitD x ∧ FitD y ∧ Same F2 F')
        ⟨F2, xa, xb, _, _, _, _, _, _, _, _, _, _, _, _, _, _, rfl, S4, fx0, fx1, Same.refl _⟩ ?_ ?_⟩
      · rintro i σ H5 hi ⟨F5, x, y, y3, y4, y5, y6, y7, y8, y9, y10, y11, y12, y13, y14, y15, y16, rfl, S5, fx, fy, m5⟩
        refine ⟨_, rfl, _, rfl, F5, pl 0, s, ns, 2, rfl, S5.dice, by decide, by decide, fun z H6 z0 z1 X6 D6 => ?_⟩
        have S6 := S5.drawn X6 D6
        clear X6 D6
        obtain ⟨o, o', a, b, tv, Sab, fa, hat, htv, conv⟩ : ∃ (o o' : Nat) (a b : Dl) (tv : Addr), S2 K C s ns pl F5 H6 o o' a a b ∧ FitD a ∧ atI [V.ref t0, .ref t1] z = some (.ref tv) ∧ F5 tv = some (.tup [.ref (pl o), .ref (pl (o + 1))]) ∧
            ∀ F' H' a', S2 K C s ns pl F' H' o o' a' a' b → FitD a' → ∃ x' y', S2 K C s ns pl F' H' 3 9 x' x' y' ∧ FitD x' ∧ FitD y' := by
          by_cases ez : z = 0
          · subst ez
            exact ⟨3, 9, x, y, t0, S6, fx, atI_nat (j := 0) rfl, m5 _ _ f0, fun F' H' a' S' f' => ⟨a', y, S', f', fy⟩⟩
          · obtain rfl : z = 1 := by omega
            exact ⟨9, 3, y, x, t1, S6.swap, fy, atI_nat (j := 1) rfl, m5 _ _ f1, fun F' H' a' S' f' => ⟨x, a', S'.swap, fx, f'⟩⟩
        refine ⟨Lp, _, _, _, rfl, rfl, SqL.of (S6.same _ _ (m5 _ _ fL)), hat, ?_⟩
        refine ⟨tv, _, rfl, SqT.of (S6.same _ _ htv), rfl, _, _, rfl, _, _, rfl, rfl, ?_⟩
        refine ⟨_, rfl, _, rfl, _, rfl, F5, pl, s, ns, o, o', a, b, rfl, e1, Sab, fa, fun F7 H7 a' t u v S7 f7 m7 ht tw => ?_⟩
        refine ⟨t, _, rfl, SqT.of ht, rfl, _, _, rfl, _, _, rfl, rfl, ?_⟩
        refine ⟨_, rfl, _, rfl, _, _, rfl, tw.up, true, rfl, iteF ?_⟩
        obtain ⟨x', y', S7', fx', fy'⟩ := conv F7 H7 a' S7 f7
        have m57 := m5.trans m7
        clear conv Sab hat htv S7 f7 S5 S6 m5 m7 fa fx fy tw ht
        refine ⟨_, rfl, Lp, rfl, ⟨_, SqL.of (S7'.same _ _ (m57 _ _ fL))⟩, for_list (K := K) (a := Lp) (xs := [.ref t0, .ref t1]) (fun j σ H' => ∃ F' y10 y11 y12 y13 y14 y15 y16, σ = [some (.ref s), some (.ref (pl 0)), some (.ref Lp), y3, y4, some (.int (0 + (i : Int))), some (.ref (pl o)), some (.ref (pl (o + 1))), some u, some v, y10, y11, y12, y13, y14, y15, y16] ∧ S2 K C s ns pl F' H' 3 9 x' x' y' ∧ Same F2 F')
          ⟨F7, _, _, _, _, _, _, _, rfl, S7', m57⟩ (fun j σ H' _ ⟨F', _, _, _, _, _, _, _, _, S', m'⟩ => SqL.of (S'.same _ _ (m' _ _ fL))) ?_ ?_⟩
        · rintro j w' σ H8 hj ⟨F8, y10, y11, y12, y13, y14, y15, y16, rfl, S8, m8⟩
          obtain ⟨p, p', c1, c2, tq, So, fc, htq, ev, conv⟩ : ∃ (p p' : Nat) (c1 c2 : Dl) (tq : Addr), S2 K C s ns pl F8 H8 p p' c1 c1 c2 ∧ FitD c1 ∧ F8 tq = some (.tup [.ref (pl p), .ref (pl (p + 1))]) ∧ w' = .ref tq ∧ ∀ F' H', S2 K C s ns pl F' H' p p' c1 c1 c2 → S2 K C s ns pl F' H' 3 9 x' x' y' := by
            match j, hj with
            | 0, hj => cases hj; exact ⟨3, 9, x', y', t0, S8, fx', m8 _ _ f0, rfl, fun F' H' z => z⟩
            | 1, hj => cases hj; exact ⟨9, 3, y', x', t1, S8.swap, fy', m8 _ _ f1, rfl, fun F' H' z => z.swap⟩
            | j + 2, hj => cases hj
          subst ev
          refine ⟨tq, _, rfl, SqT.of (So.same _ _ htq), rfl, _, _, rfl, _, _, rfl, rfl, ?_⟩
          have m2 := fc.m2
          have m6 := fc.m6
          have an6 := fc.an.len m6
          have kp6 := fc.kp.len m6
          refine ⟨Nat.zero_le _, fun e0 ne0 => ?_⟩
          have S9 := So.quiet ((XM.refl So.same).lay (o := .lst []) ne0)
          have k0 : (kL kPt).is (upd F8 e0 (.lst [])) (.ref e0) [] := ⟨e0, [], rfl, upd_same, .nil⟩
          have m9 := m8.trans (same_upd (o := .lst []) (So.same.free ne0))
          revert S9 k0 m9
          generalize upd F8 e0 (.lst []) = F9
          generalize upd H8 e0 (.lst []) = H9
          intro S9 k0 m9
          clear ne0 So S8 m8 htq
          obtain ⟨kvs, hk, dk⟩ := S9.own.ha
          have hdn : H9 (pl (p + 4)) ≠ none := by rw [hk]; simp
          have n14 : pl (p + 1) ≠ pl (p + 4) := fun e => by
            have := S9.inj _ _ (by have := S9.oo; omega) (by have := S9.oo; omega) e
            omega
          refine ⟨pl (p + 4), .dK kvs, hk, trivial, fun od => ?_⟩
          have hwf : upd H9 (pl (p + 4)) (.frz od (.dK kvs)) (pl (p + 1)) = some (.dK (ownL c1.many (pl (p + 4)) c1.bg (pl (p + 5)))) := by rw [upd_ne n14]; exact S9.own.hw
          refine ⟨_, rfl, pl (p + 1), _, rfl, DGet.k (k := Sum.inr "answers") hwf, pl (p + 4), od, rfl, .inl ⟨kvs, upd_same,
            for_it walk_keys (fun l σ H' => ∃ F' vm ps y12, σ = [some (.ref s), some (.ref (pl 0)), some (.ref Lp), y3, y4, some (.int (0 + (i : Int))), some (.ref (pl o)), some (.ref (pl (o + 1))), some u, some v, some (.ref (pl (p + 1))), some vm, y12, y13, y14, y15, some (.ref (pl p))] ∧ UL F9 H9 (pl (p + 4)) od kvs c1.an l F' H' vm ps)
            ⟨F9, _, [], _, rfl, UL.start S9.same S9.own.fa hk dk k0⟩ (fun l σ H' _ ⟨_, _, _, _, _, U⟩ => U.hd) ?_ ?_⟩⟩
          · rintro l zz σ _ H10 hl ⟨F10, vm, ps, y12', rfl, U⟩ ⟨rfl, k, v', hkv, rfl⟩
            obtain ⟨hv, st⟩ := U.step (P := P) (w := w) (K := K) hdn fc.an m6 hkv (Q := fun v2 H3 => ∃ F3 v3 ps3 y3', [some (V.ref s), some (.ref (pl 0)), some (.ref Lp), y3, y4, some (.int (0 + (i : Int))), some (.ref (pl o)), some (.ref (pl (o + 1))), some u, some v, some (.ref (pl (p + 1))), some v2, some (kV k), y13, y14, y15, some (.ref (pl p))] = [some (V.ref s), some (.ref (pl 0)), some (.ref Lp), y3, y4, some (.int (0 + (i : Int))), some (.ref (pl o)), some (.ref (pl (o + 1))), some u, some v, some (.ref (pl (p + 1))), some v3, y3', y13, y14, y15, some (.ref (pl p))] ∧ UL F9 H9 (pl (p + 4)) od kvs c1.an (l + 1) F3 H3 v3 ps3) fun F3 H3 v3 ps3 U3 => ⟨F3, v3, ps3, _, rfl, U3⟩
            have hw10 : H10 (pl (p + 1)) = some (.dK (ownL c1.many (pl (p + 4)) c1.bg (pl (p + 5)))) := by
              have := U.X.hh _ _ S9.own.hw id
              rwa [upd_ne n14] at this
            refine ⟨_, rfl, _, rfl, pl (p + 1), _, rfl, DGet.k (k := Sum.inr "answers") hw10, _, rfl, pl (p + 4), _, rfl, .inl ⟨kvs, k, .inr ⟨od, U.hd⟩, rfl, hv.symm⟩, ?_⟩
            exact st
          rintro σ H10 ⟨F10, vm, must, y12', rfl, U⟩
          refine ⟨U.hd, ?_⟩
          have al := U.all
          rw [show kvs.length = c1.an.length from dk.len, List.take_length] at al
          have kv := U.kv
          have S10 := S9.quiet (.of U.X)
          have m10 := m9.trans U.X.ff
          clear U S9 m9 k0 hk dk hdn n14 hwf
          revert S10
          generalize upd H10 (pl (p + 4)) (.dK kvs) = H11
          intro S10
          have lm := b18_len al.sort (al.box' fc.an)
          -- wanted
          dsimp only
          refine seq_join (fun σ H' => ∃ F' y12 wv, σ = [some (.ref s), some (.ref (pl 0)), some (.ref Lp), y3, y4, some (.int (0 + (i : Int))), some (.ref (pl o)), some (.ref (pl (o + 1))), some u, some v, some (.ref (pl (p + 1))), some vm, y12, some wv, y14, y15, some (.ref (pl p))] ∧ S2 K C s ns pl F' H' p p' c1 c1 c2 ∧ Same F2 F' ∧ Wt F' wv (c1.many / 2 + 1 ≤ (c1.an.length : Int)) (fun q => 1 ≤ cnt (c1.an.map (·.rs)) q)) ?_ fun key => ?_
          rotate_left
          · obtain ⟨kvs, hk, dk⟩ := S10.own.ha
            have lk := dk.len
            refine ⟨_, rfl, pl (p + 1), _, rfl, DGet.k (k := Sum.inr "answers") S10.own.hw, _, kvs, rfl, hk, _, _, rfl, rfl, .inl (by decide), _, rfl, pl (p + 1), _, rfl, DGet.k (k := Sum.inr "many") S10.own.hw, _, _, rfl, rfl, _, rfl, iteL (fun c => ?_) (fun c => ?_)⟩
            · refine ⟨_, rfl, F10, vm, must, rfl, S10.same, kv, al.sort, by omega, fun F12 H12 at' vs out X12 na fa ha hp tl => ?_⟩
              have S12 := (S10.quiet (.of X12)).fz (S10.dice.ne na) fa ha
              have lo := tl.len
              exact key _ _ ⟨_, _, _, rfl, S12, m10.trans (X12.ff.trans (same_upd fa)), .inl ⟨by omega, at', vs, out, rfl, upd_same, pr_mono (fun _ _ z => kRow.mono (same_upd fa) z) hp, tl.can, fun q => (tl.mem q).trans (al.cnt fc.an q), by omega⟩⟩
            · refine ⟨by show 1 ≤ sizeLine; decide, fun tt ntt => ?_⟩
              have S12 := S10.quiet ((XM.refl S10.same).lay (o := .tup [.str "not yet"]) ntt)
              exact key _ _ ⟨_, _, _, rfl, S12, m10.trans (same_upd (S10.same.free ntt)), .inr ⟨by omega, tt, rfl, upd_same⟩⟩
          rintro _ H12 ⟨F12, y12, wv, rfl, S12, m12, hw⟩
          clear S10 m10 kv al lm
          try dsimp only
          refine seq_join (fun σ H' => ∃ F' y12 sv, σ = [some (.ref s), some (.ref (pl 0)), some (.ref Lp), y3, y4, some (.int (0 + (i : Int))), some (.ref (pl o)), some (.ref (pl (o + 1))), some u, some v, some (.ref (pl (p + 1))), some vm, y12, some wv, some sv, y15, some (.ref (pl p))] ∧ S2 K C s ns pl F' H' p p' c1 c1 c2 ∧ Same F2 F' ∧ Wt F' wv (c1.many / 2 + 1 ≤ (c1.an.length : Int)) (fun q => 1 ≤ cnt (c1.an.map (·.rs)) q) ∧
              Wt F' sv (c1.bg = true) (fun q => c1.many / 2 + 1 ≤ cnt (c1.kp.map (·.rs)) q)) ?_ fun key => ?_
          rotate_left
          · refine ⟨_, rfl, pl (p + 1), _, rfl, DGet.k (k := Sum.inr "begun") S12.own.hw, c1.bg, rfl, ?_⟩
            cases hbg : c1.bg with
            | true =>
              obtain ⟨kvk, hk, dk⟩ := S12.own.hk
              refine iteT ⟨_, rfl, pl (p + 1), _, rfl, DGet.k (k := Sum.inr "many") S12.own.hw, _, rfl, pl (p + 1), _, rfl, DGet.k (k := Sum.inr "kept") S12.own.hw, F12, pl (p + 5), kvk, c1.kp, c1.many, rfl, S12.same, hk, S12.own.fk, dk, fc.kp, by omega, m6, fun F13 H13 at' vs names X13 na fa ha hp sh => ?_⟩
              have S13 := (S12.quiet (.of X13)).fz (S12.dice.ne na) fa ha
              have kn := kL_new fa hp
              have mm := m12.trans (X13.ff.trans (same_upd (o := .lst vs) fa))
              have hw13 := hw.mono (X13.ff.trans (same_upd (o := .lst vs) fa))
              revert S13 kn mm hw13
              generalize upd F13 at' (.lst vs) = F13'
              intro S13 kn mm hw13
              have ln := b18_len sh.sort sh.box
              refine ⟨F13', .ref at', names, rfl, S13.same, kn, sh.sort, by omega, fun F14 H14 b14 us out X14 nb fb hb hp14 tl => ?_⟩
              have S14 := (S13.quiet (.of X14)).fz (S13.dice.ne nb) fb hb
              have lo := tl.len
              exact key _ _ ⟨_, _, _, rfl, S14, mm.trans (X14.ff.trans (same_upd fb)), hw13.mono (X14.ff.trans (same_upd fb)), .inl ⟨hbg, b14, us, out, rfl, upd_same, pr_mono (fun _ _ z => kRow.mono (same_upd fb) z) hp14, tl.can, fun q => (tl.mem q).trans (sh.mem q), by omega⟩⟩
            | false =>
              refine iteF ⟨by show 1 ≤ sizeLine; decide, fun tt ntt => ?_⟩
              have S13 := S12.quiet ((XM.refl S12.same).lay (o := .tup [.str "not yet"]) ntt)
              exact key _ _ ⟨_, _, _, rfl, S13, m12.trans (same_upd (S12.same.free ntt)), hw.mono (same_upd (S12.same.free ntt)), .inr ⟨by rw [hbg]; simp, tt, rfl, upd_same⟩⟩
          rintro _ H14 ⟨F14, y12'', sv, rfl, S14, m14, hw14, hs14⟩
          clear S12 m12 hw
          try dsimp only
          refine seq_join (fun σ H' => ∃ F' l1 v1 v3, σ = [some (.ref s), some (.ref (pl 0)), some (.ref Lp), y3, y4, some (.int (0 + (i : Int))), some (.ref (pl o)), some (.ref (pl (o + 1))), some u, some v, some (.ref (pl (p + 1))), some vm, y12'', some wv, some sv, some (.ref l1), some (.ref (pl p))] ∧ S2 K C s ns pl F' H' p p' c1 c1 c2 ∧ Same F2 F' ∧
              H' l1 = some (.lst [v1, .bl c1.bg, v3]) ∧ v1 ≠ .ref l1 ∧ v3 ≠ .ref l1 ∧ v1 ≠ v3 ∧ Fit2 (pl 0) F' H' v1 wv ∧ Fit2 (pl 0) F' H' v3 sv) ?_ fun key => ?_
          rotate_left
          · show tTold1 _ (pl 2) (fun E => tMeth C "must" (spMust K C) [] E (tVar 16) tNil) _ _ _
            refine told_join (fun vv H' => ∃ F', S2 K C s ns pl F' H' p p' c1 c1 c2 ∧ Same F14 F' ∧ Fit2 (pl 0) F' H' vv wv) ?_ fun key1 => ?_
            · rintro v1 H15 ⟨F15, S15, m15, ft1⟩
              obtain ⟨dx, ob⟩ := S15.lead.ob
              refine ⟨_, rfl, pl p, dx, _, rfl, ob, ll_leads _ _ _ _, F15, pl p, pl (p + 2), pl (p + 3), c1.many, c1.an, c1.kp, c1.bg, rfl, S15.lead, ?_⟩
              show tTold1 _ (pl 2) (fun E => tMeth C "shown" (spShown K C) [] E (tVar 16) tNil) _ _ _
              have hs15 := hs14.mono m15
              refine told_join (fun vv H' => ∃ F', S2 K C s ns pl F' H' p p' c1 c1 c2 ∧ Same F15 F' ∧ v1 ≠ vv ∧ Fit2 (pl 0) F' H' v1 wv ∧ Fit2 (pl 0) F' H' vv sv) ?_ fun key2 => ?_
              · rintro v3 H16 ⟨F16, S16, m16, n13, ft1', ft3⟩
                refine ⟨by show 3 ≤ sizeLine; decide, fun l1 nl1 => ?_⟩
                have X := (XM.refl (M := M0) S16.same).tmp (o := .lst [v1, .bl c1.bg, v3]) nl1
                exact key _ _ ⟨F16, l1, v1, v3, rfl, S16.quiet X, m14.trans (m15.trans m16), upd_same, ft1'.ne nl1, ft3.ne nl1, n13, ft1'.xm X, ft3.xm X⟩
              · refine ⟨S15.tl, fun H16 g tab => ?_⟩
                have X16 := XM.of (g.ext S15.same S15.fl)
                have S16 := S15.growL g tab
                obtain ⟨dx, ob⟩ := S16.lead.ob
                have ft16 : Fit2 (pl 0) F15 H16 v1 wv := by
                  obtain ⟨p2, h2', _⟩ := S15.tl
                  cases ft1 with
                  | rows nd ha fa pa hb pb l => exact .rows nd (X16.hh _ _ ha fun e => by rw [e, h2'] at ha; cases ha) fa pa hb pb l
                  | late ha hb => exact .late (X16.hh _ _ ha fun e => by rw [e, h2'] at ha; cases ha) (X16.hh _ _ hb fun e => by rw [e, h2'] at hb; cases hb)
                refine ⟨_, rfl, pl p, dx, _, rfl, ob, ll_shown _ _ _ _, F15, pl p, pl (p + 2), pl (p + 3), c1.many, c1.an, c1.kp, c1.bg, rfl, S16.same, S16.lead, by omega, fc.kp.ok m6, fun c => ?_, fun c => ?_⟩
                · refine EW.plain 6 (by decide) (by decide) (by decide) fun H17 t1 sm nt ht => ?_
                  have X17 := XM.of (Ext.ofSame S16.same sm)
                  have S17 := S16.quiet X17
                  rcases hs15 with ⟨hb, _⟩ | ⟨_, tw, rfl, htw⟩
                  · rw [c] at hb; cases hb
                  · exact key2 _ _ ⟨F15, S17, Same.refl _, ft16.ne nt, ft16.xm X17, .late ht (S17.same _ _ htw)⟩
                · intro F17 H17 a17 vs out X17 na fa ha hp he
                  have S17 := S16.quiet (.of X17)
                  rcases hs15 with ⟨_, b, us, rs, rfl, hb, pb, cb, mb, lb⟩ | ⟨hb, _⟩
                  · have eo : out = rs := Canon.uniq he.can cb fun q => (he.mem q).trans (mb q).symm
                    subst eo
                    exact key2 _ _ ⟨F17, S17, X17.ff, ft16.ne na, ft16.xm (.of X17), .rows (S16.dice.ne na) ha fa hp (X17.ff _ _ hb) (pr_mono (fun _ _ z => kRow.mono X17.ff z) pb) lb⟩
                  · exact absurd c hb
            · refine ⟨S14.tl, fun H15 g tab => ?_⟩
              have S15 := S14.growL g tab
              obtain ⟨dx, ob⟩ := S15.lead.ob
              refine ⟨_, rfl, pl p, dx, _, rfl, ob, ll_must _ _ _ _, F14, pl p, pl (p + 2), pl (p + 3), c1.many, c1.an, c1.kp, c1.bg, rfl, S15.same, S15.lead, by omega, fc.an.ok m6, fun c => ?_, fun c => ?_⟩
              · refine EW.plain 6 (by decide) (by decide) (by decide) fun H16 t1 sm nt ht => ?_
                have S16 := S15.quiet (.of (Ext.ofSame S15.same sm))
                rcases hw14 with ⟨hb, _⟩ | ⟨_, tw, rfl, htw⟩
                · exact absurd hb (by omega)
                · exact key1 _ _ ⟨F14, S16, Same.refl _, .late ht (S16.same _ _ htw)⟩
              · intro F16 H16 a16 vs out X16 na fa ha hp he
                have S16 := S15.quiet (.of X16)
                rcases hw14 with ⟨_, b, us, rs, rfl, hb, pb, cb, mb, lb⟩ | ⟨hb, _⟩
                · have eo : out = rs := Canon.uniq he.can cb fun q => (he.mem q).trans (mb q).symm
                  subst eo
                  exact key1 _ _ ⟨F16, S16, X16.ff, .rows (S15.dice.ne na) ha fa hp (X16.ff _ _ hb) (pr_mono (fun _ _ z => kRow.mono X16.ff z) pb) lb⟩
                · exact absurd c hb
          rintro _ H15 ⟨F15, l1, v1, v3, rfl, S15, m15, hl1, n1, n3, n13, ft1, ft3⟩
          clear S14 m14 hw14 hs14
          refine ⟨_, rfl, _, rfl, _, rfl, pl (p + 1), _, rfl, DGet.k (k := Sum.inr "begun") S15.own.hw, _, rfl, by show 3 ≤ sizeLine; decide, fun l2 nl2 => ?_⟩
          have X16 := (XM.refl (M := M0) S15.same).tmp (o := .lst [wv, .bl c1.bg, sv]) nl2
          have S16 := S15.quiet X16
          have h1' := X16.hh _ _ hl1 id
          have h2' : upd H15 l2 (.lst [wv, .bl c1.bg, sv]) l2 = some (.lst [wv, .bl c1.bg, sv]) := upd_same
          have ft1' := ft1.xm X16
          have ft3' := ft3.xm X16
          revert S16 h1' h2' ft1' ft3'
          generalize upd H15 l2 (.lst [wv, V.bl c1.bg, sv]) = H16
          intro S16 h1' h2' ft1' ft3'
          clear ft1 ft3 hl1 S15 X16 nl2
          refine ⟨_, _, rfl, .inr ⟨l1, l2, _, _, rfl, rfl, .inr ⟨h1', h2'⟩, by show 3 ≤ 100000; decide, rfl, fun n u0 u1 g0 g1 => ?_⟩, true, rfl, iteF ?_⟩
          · match n, g0, g1 with
            | 0, g0, g1 => cases g0; cases g1; exact ft1'.twin S16.same
            | 1, g0, g1 => cases g0; cases g1; exact twin_bl _
            | 2, g0, g1 => cases g0; cases g1; exact ft3'.twin S16.same
            | n + 3, g0, g1 => cases g0
          unfold tNext
          dsimp only
          refine seq_join (fun σ H' => σ = [some (.ref s), some (.ref (pl 0)), some (.ref Lp), y3, y4, some (.int (0 + (i : Int))), some (.ref (pl o)), some (.ref (pl (o + 1))), some u, some v, some (.ref (pl (p + 1))), some vm, y12'', some wv, some sv, some (.ref l1), some (.ref (pl p))] ∧ S2 K C s ns pl F15 H' p p' c1 c1 c2 ∧
              H' l1 = some (.lst [v1, .bl c1.bg, v3]) ∧ Fit2 (pl 0) F15 H' v3 sv) ?_ fun key => ?_
          rotate_left
          · cases ft1' with
            | @rows a b vs us out nd ha fa pa hb pb ll =>
              have lv := pr_len pa
              refine ⟨_, rfl, l1, _, _, _, rfl, rfl, SqL.of h1', atI_nat (j := 0) rfl, _, .ty "list", _, _, _, rfl, .ty _, tyx_lst ha, kit_ty (r := true) (by decide +kernel), true, rfl, iteT ?_⟩
              refine ⟨_, rfl, l1, _, _, _, rfl, rfl, SqL.of h1', atI_nat (j := 0) rfl, .inl ⟨rfl, _, SqL.of ha⟩, a, vs, _, rfl, rfl, ha, by rw [sizeLine_eq]; omega, ?_⟩
              exact key _ _ ⟨rfl, S16.spoil nd fa ha, by rw [upd_ne fun e => n1 (by rw [e])]; exact h1', ft3'.spoil ha (Ne.symm n13)⟩
            | @late a b ha hb =>
              refine ⟨_, rfl, l1, _, _, _, rfl, rfl, SqL.of h1', atI_nat (j := 0) rfl, _, .ty "list", _, _, _, rfl, .ty _, tyx_tup ha, kit_ty (r := false) (by decide +kernel), false, rfl, iteF ?_⟩
              exact key _ _ ⟨rfl, S16, h1', ft3'⟩
          rintro _ H17 ⟨rfl, S17, h17, ft17⟩
          cases ft17 with
          | @rows a b vs us out nd ha fa pa hb pb ll =>
            have lv := pr_len pa
            refine ⟨_, rfl, l1, _, _, _, rfl, rfl, SqL.of h17, atI_nat (j := 2) rfl, _, .ty "list", _, _, _, rfl, .ty _, tyx_lst ha, kit_ty (r := true) (by decide +kernel), true, rfl, iteT ?_⟩
            refine ⟨_, rfl, l1, _, _, _, rfl, rfl, SqL.of h17, atI_nat (j := 2) rfl, .inl ⟨rfl, _, SqL.of ha⟩, a, vs, _, rfl, rfl, ha, by rw [sizeLine_eq]; omega, ?_⟩
            exact ⟨F15, _, _, _, _, _, _, _, rfl, conv _ _ (S17.spoil nd fa ha), m15⟩
          | @late a b ha hb =>
            refine ⟨_, rfl, l1, _, _, _, rfl, rfl, SqL.of h17, atI_nat (j := 2) rfl, _, .ty "list", _, _, _, rfl, .ty _, tyx_tup ha, kit_ty (r := false) (by decide +kernel), false, rfl, iteF ?_⟩
            exact ⟨F15, _, _, _, _, _, _, _, rfl, conv _ _ S17, m15⟩
        · rintro σ H8 ⟨F8, y10, y11, y12, y13, y14, y15, y16, rfl, S8, m8⟩
          exact ⟨F8, x', y', _, _, _, _, _, _, _, _, _, _, _, _, _, _, rfl, S8, fx', fy', m8⟩
      · rintro σ H5 ⟨F5, x, y, y3, y4, y5, y6, y7, y8, y9, y10, y11, y12, y13, y14, y15, y16, rfl, S5, fx, fy, m5⟩
        exact q _
end
end Rw
namespace Rw
open PySem PySem.Spec PyProof.Rows L2
/-! ### what the head tells -/
def HasFn (K : PySem.W.Frag) (x : Str) (st : Stmt) : Prop := ∃ (f : Addr) (oc : Value) (od an : Option Addr) (osl : Array (Option Value)) (kV doc pm cdv ct : Value),
  PySem.W.nsIn K mainGlobals x = some (some (.ref f)) ∧ K.lookup f = some ⟨oc, od, .func (PySem.W.fnOf x x (defArgs st) (defBody st) (defScope st) .none kV doc pm an cdv ct), osl⟩ ∧ PySem.W.codeIn K cdv x = true ∧ PySem.W.keepIn K (.ref f) = true
theorem has_mk {K : PySem.W.Frag} {x : Str} {st : Stmt} {f : Addr} {oc : Value} {od an : Option Addr} {osl : Array (Option Value)} {kV doc pm cdv ct : Value}
    (a : PySem.W.nsIn K mainGlobals x = some (some (.ref f))) (l : K.lookup f = some ⟨oc, od, .func (PySem.W.fnOf x x (defArgs st) (defBody st) (defScope st) .none kV doc pm an cdv ct), osl⟩) (c : PySem.W.codeIn K cdv x = true) (k : PySem.W.keepIn K (.ref f) = true) : HasFn K x st :=
  ⟨f, oc, od, an, osl, kV, doc, pm, cdv, ct, a, l, c, k⟩
def tabOkIn (K : PySem.W.Frag) (x : Str) : Bool := match PySem.W.tabIn K x with
  | some (_, P) => (K.lookup P).isNone
  | none => false
theorem tab_ok {K : PySem.W.Frag} {x : Str} (h : tabOkIn K x = true) : ∃ c P, PySem.W.tabIn K x = some (c, P) ∧ K.lookup P = none := by
  unfold tabOkIn at h
  split at h
  · rename_i c P e
    exact ⟨c, P, e, Option.isNone_iff_eq_none.mp h⟩
  · cases h
def HasInt (K : PySem.W.Frag) (x : Str) (z : Int) : Prop := ∃ t, PySem.W.nsIn K mainGlobals x = some (some (.int z t))
theorem int_mk {K : PySem.W.Frag} {x : Str} {z : Int} {t : Tok} (a : PySem.W.nsIn K mainGlobals x = some (some (.int z t))) : HasInt K x z := ⟨t, a⟩
theorem HasFn.fn {K : PySem.W.Frag} {x : Str} {st : Stmt} {h : Heap} {mg : Str → Option Value} (H : HasFn K x st) (X : K.In h) (G : h.Ns mainGlobals mg) : ∃ (f : Addr) (fd : FuncData), Fun K x x st f fd ∧ mg x = some (.ref f) := by
  obtain ⟨f, oc, od, an, osl, kV, doc, pm, cdv, ct, a, l, c, k⟩ := H
  exact ⟨f, _, fun_mk (st := st) l c k, PySem.W.mg_of X G a⟩
theorem HasInt.mg {K : PySem.W.Frag} {x : Str} {z : Int} {h : Heap} {mg : Str → Option Value} (H : HasInt K x z) (X : K.In h) (G : h.Ns mainGlobals mg) : ∃ t, mg x = some (.int z t) := by
  obtain ⟨t, a⟩ := H
  exact ⟨t, PySem.W.mg_of X G a⟩
def HasMeth (K : PySem.W.Frag) (C : Addr) (m q : Str) (st : Stmt) : Prop := ∃ (f : Addr) (oc : Value) (od an : Option Addr) (osl : Array (Option Value)) (kV doc pm cdv ct : Value),
  PySem.W.findIn K (.ref C) m = some (some (.ref f)) ∧ PySem.W.isFn K (.ref f) = true ∧ K.lookup f = some ⟨oc, od, .func (PySem.W.fnOf m q (defArgs st) (defBody st) (defScope st) .none kV doc pm an cdv ct), osl⟩ ∧ PySem.W.codeIn K cdv q = true ∧ PySem.W.keepIn K (.ref f) = true
theorem meth_mk {K : PySem.W.Frag} {C : Addr} {m q : Str} {st : Stmt} {f : Addr} {oc : Value} {od an : Option Addr} {osl : Array (Option Value)} {kV doc pm cdv ct : Value} (a : PySem.W.findIn K (.ref C) m = some (some (.ref f))) (i : PySem.W.isFn K (.ref f) = true)
    (l : K.lookup f = some ⟨oc, od, .func (PySem.W.fnOf m q (defArgs st) (defBody st) (defScope st) .none kV doc pm an cdv ct), osl⟩) (c : PySem.W.codeIn K cdv q = true) (k : PySem.W.keepIn K (.ref f) = true) : HasMeth K C m q st :=
  ⟨f, oc, od, an, osl, kV, doc, pm, cdv, ct, a, i, l, c, k⟩
structure IsSeat (K : PySem.W.Frag) (C : Addr) : Prop where
  aC : PySem.W.nsIn K mainGlobals "Lead" = some (some (.ref C))
  pg : PySem.W.plainGet K C Str.empty = true
  hd : PySem.W.hasDictIn K C = true
  po : PySem.W.plainOver K C = true
  sa : PySem.W.findIn K (.ref C) "__setattr__" = some (some (.builtin "object.__setattr__"))
  mks : PySem.W.makesIn K C = true
  kc : PySem.W.keepIn K (.ref C) = true
  n_many : PySem.W.findIn K (.ref C) "_many" = some none
  n_answers : PySem.W.findIn K (.ref C) "_answers" = some none
  n_told : PySem.W.findIn K (.ref C) "_told" = some none
  n_begun : PySem.W.findIn K (.ref C) "_begun" = some none
  m__most : HasMeth K C "_most" "Lead._most" s_Lead__most
  m__check_begun : HasMeth K C "_check_begun" "Lead._check_begun" s_Lead__check_begun
  m_leads : HasMeth K C "leads" "Lead.leads" s_Lead_leads
  m_heard : HasMeth K C "heard" "Lead.heard" s_Lead_heard
  m_must : HasMeth K C "must" "Lead.must" s_Lead_must
  m_begin : HasMeth K C "begin" "Lead.begin" s_Lead_begin
  m_kept : HasMeth K C "kept" "Lead.kept" s_Lead_kept
  m_shown : HasMeth K C "shown" "Lead.shown" s_Lead_shown
  m_init : HasMeth K C "__init__" "Lead.__init__" s_Lead___init__
def tabNeB (K : PySem.W.Frag) : Bool := match PySem.W.tabIn K "_law_deed", PySem.W.tabIn K "law" with
  | some (_, P), some (_, P') => !decide (P = P')
  | _, _ => false
theorem tab_ne {K : PySem.W.Frag} {c P c' P' : Addr} (h : tabNeB K = true) (a : PySem.W.tabIn K "_law_deed" = some (c, P)) (b : PySem.W.tabIn K "law" = some (c', P')) : P ≠ P' := by
  unfold tabNeB at h
  rw [a, b] at h
  intro e
  simp [e] at h
theorem seat_mk {K : PySem.W.Frag} {C : Addr} (I : IsSeat K C) : ∃ C, IsSeat K C := ⟨C, I⟩
/-- a class of refusals with its own dict, over ValueError -/
def oexB (K : PySem.W.Frag) (C : Addr) : Bool := match K.lookup C with
  | some { cls := .type t, dict := _, data := .cls c, slots := z } => t == "type" && (c.hasDict && (!c.hasDel && ((match c.mro with | .ref D :: m => D == C && PySem.HandSPX.refsVE m | _ => false) &&
      (match z.toList with | [_, _, _, _, some (.builtin n), _] => n == "ValueError.__new__" | _ => false))))
  | _ => false
theorem oexB_ok {K : PySem.W.Frag} {C : Addr} (h : oexB K C = true) : ∃ nm q N bs bm sn sub ab col dd k0 k1 k2 k3 k5, K.lookup C = some (excClassObj nm q C N bs bm true sn sub ab col dd k0 k1 k2 k3 k5 "ValueError.__new__") ∧ PySem.HandSPX.refsVE bm = true := by
  unfold oexB at h
  split at h
  · rename_i t dd c z ho
    simp only [Bool.and_eq_true, beq_iff_eq, Bool.not_eq_true'] at h
    obtain ⟨rfl, h1, h2, h3, h4⟩ := h
    split at h3
    · rename_i D m em
      split at h4
      · rename_i k0 k1 k2 k3 n k5 ez
        simp only [Bool.and_eq_true, beq_iff_eq] at h3 h4
        obtain ⟨rfl, hm⟩ := h3
        subst h4
        obtain ⟨l⟩ := z
        obtain ⟨nm, bs, mro, ns, qn, hd, sn, sub, ab, col, del⟩ := c
        simp only at em ez h1 h2
        subst em ez h1 h2
        exact ⟨nm, qn, ns, bs, m, sn, sub, ab, col, dd, k0, k1, k2, k3, k5, ho, hm⟩
      · cases h4
    · cases h3
  · cases h
/-- the refusal that keeps a place -/
def HasEx0 (K : PySem.W.Frag) : Prop := ∃ (C fI : Addr) (oc : Value) (od an : Option Addr) (osl : Array (Option Value)) (kV doc pm cdv ct : Value), PySem.W.nsIn K mainGlobals "BadStretches" = some (some (.ref C)) ∧ OexC K C ∧ PySem.W.findIn K (.ref C) "__init__" = some (some (.ref fI)) ∧
  PySem.W.typeIn K (.ref fI) = some (.type "function") ∧ K.lookup fI = some ⟨oc, od, .func (PySem.W.fnOf "__init__" "BadStretches.__init__" (defArgs s_BadStretches___init__) (defBody s_BadStretches___init__) (defScope s_BadStretches___init__) .none kV doc pm an cdv ct), osl⟩ ∧
  PySem.W.codeIn K cdv "BadStretches.__init__" = true ∧ PySem.W.keepIn K (.ref fI) = true ∧ PySem.W.findIn K (.ref C) "at" = some none
theorem ex0_mk {K : PySem.W.Frag} {C fI : Addr} {oc : Value} {od an : Option Addr} {osl : Array (Option Value)} {kV doc pm cdv ct : Value} 
    (a : PySem.W.nsIn K mainGlobals "BadStretches" = some (some (.ref C))) (lc : oexB K C = true) (sa : PySem.W.findIn K (.ref C) "__setattr__" = some (some (.builtin "object.__setattr__")))
    (ec : PySem.W.subIn K (.ref C) (.type "BaseException") = some true) (ty : PySem.W.typeIn K (.ref C) = some (.type "type")) (kc : PySem.W.keepIn K (.ref C) = true) (i : PySem.W.findIn K (.ref C) "__init__" = some (some (.ref fI))) (t : PySem.W.typeIn K (.ref fI) = some (.type "function"))
    (l : K.lookup fI = some ⟨oc, od, .func (PySem.W.fnOf "__init__" "BadStretches.__init__" (defArgs s_BadStretches___init__) (defBody s_BadStretches___init__) (defScope s_BadStretches___init__) .none kV doc pm an cdv ct), osl⟩) (c : PySem.W.codeIn K cdv "BadStretches.__init__" = true) (k : PySem.W.keepIn K (.ref fI) = true)
    (n : PySem.W.findIn K (.ref C) "at" = some none) : HasEx0 K :=
  ⟨C, fI, oc, od, an, osl, kV, doc, pm, cdv, ct, a, ⟨oexB_ok lc, sa, ec, ty, kc⟩, i, t, l, c, k, n⟩
/-- the refusals without a number -/
def exPlainB (K : PySem.W.Frag) (i : Nat) : Bool := PySem.W.excIn K (exC K i) [.type "ValueError", .type "Exception", .type "BaseException", .type "object"] "ValueError.__new__" && (PySem.W.keepIn K (.ref (exC K i)) && (decide (PySem.W.subIn K (.ref (exC K i)) (.type "BaseException") = some true) && decide (PySem.W.typeIn K (.ref (exC K i)) = some (.type "type"))))
theorem exMk_of {K : PySem.W.Frag} {mg : Str → Option Value} {i : Nat} (T : ToldC K mg) (hi : i < 9) (h : exPlainB K i = true) : ExMk K mg i := by
  unfold exPlainB at h
  simp only [Bool.and_eq_true, decide_eq_true_eq] at h
  exact ⟨h.1, T.g i hi, h.2.1, h.2.2.1, h.2.2.2⟩
theorem exC_of {K : PySem.W.Frag} {C : Addr} (i : Nat) {x : Str} (hx : exN.getD i "" = x) (a : PySem.W.nsIn K mainGlobals x = some (some (.ref C))) : exC K i = C := by
  unfold exC exAddr
  rw [hx, a]
  rfl
structure Head (K : PySem.W.Frag) : Prop where
  fis_number : HasFn K "is_number" s_is_number
  fis_house : HasFn K "is_house" s_is_house
  fchanges_of : HasFn K "changes_of" s_changes_of
  freaching : HasFn K "reaching" s_reaching
  ffewest : HasFn K "fewest" s_fewest
  fheld_by_many : HasFn K "held_by_many" s_held_by_many
  fwithout : HasFn K "without" s_without
  f_law_dice : HasFn K "_law_dice" s_law_dice
  f_law_next : HasFn K "_law_next" s_law_next
  f_law_rows : HasFn K "_law_rows" s_law_rows
  f_law_names : HasFn K "_law_names" s_law_names
  f_law_told_rows : HasFn K "_law_told_rows" s_law_told_rows
  fcheck_many : HasFn K "check_many" s_check_many
  f_law_shown : HasFn K "_law_shown" s_law_shown
  f_law_like : HasFn K "_law_like" s_law_like
  fis_row : HasFn K "is_row" s_is_row
  ffirst_wrong : HasFn K "first_wrong" s_first_wrong
  fcheck_rows : HasFn K "check_rows" s_check_rows
  fcheck_one_of : HasFn K "check_one_of" s_check_one_of
  f_law_told : HasFn K "_law_told" s_law_told
  f_law_deed : HasFn K "_law_deed" s_law_deed
  flaw : HasFn K "law" s_law
  last : HasInt K "LAST_HOUSE" 7
  most : HasInt K "MOST_ROWS" 200
  leasth : HasInt K "LEAST_HOUSES" 2
  mosth : HasInt K "MOST_HOUSES" 6
  t_law_deed : tabOkIn K "_law_deed" = true
  tlaw : tabOkIn K "law" = true
  zisinstance : PySem.W.nsIn K mainGlobals "isinstance" = some none
  zint : PySem.W.nsIn K mainGlobals "int" = some none
  zbool : PySem.W.nsIn K mainGlobals "bool" = some none
  zstr : PySem.W.nsIn K mainGlobals "str" = some none
  ztuple : PySem.W.nsIn K mainGlobals "tuple" = some none
  zlist : PySem.W.nsIn K mainGlobals "list" = some none
  zlen : PySem.W.nsIn K mainGlobals "len" = some none
  zenumerate : PySem.W.nsIn K mainGlobals "enumerate" = some none
  zsorted : PySem.W.nsIn K mainGlobals "sorted" = some none
  zset : PySem.W.nsIn K mainGlobals "set" = some none
  zrange : PySem.W.nsIn K mainGlobals "range" = some none
  zmin : PySem.W.nsIn K mainGlobals "min" = some none
  zValueError : PySem.W.nsIn K mainGlobals "ValueError" = some none
  seat : ∃ C, IsSeat K C
  ex0 : HasEx0 K
  ex1 : exPlainB K 1 = true
  ex6 : exPlainB K 6 = true
  tne : tabNeB K = true
  exall : exAllB K = true
  base : BaseI K (exD K) (.type "type")
theorem tab_conv {base : Heap} {mg : Str → Option Value} {c P : Addr} (h : LamX.TabB base mg c P) : LamX.TabB base mg c P := ⟨h.code, h.bm, h.gP⟩
set_option maxHeartbeats 8000000 in
theorem all_ok {P : Program} {w : World} {K : PySem.W.Frag} {h base : Heap} {mg : Str → Option Value} {fa : Addr} {P_law_deed c_law_deed : Addr} {Plaw claw : Addr} (D : Head K) (X : K.In h) (G : h.Ns mainGlobals mg) (lim : ∃ t, mg "LIMIT" = some (.int LIM t)) (TB_law_deed : LamX.TabB base mg c_law_deed P_law_deed) (ht_law_deed : PySem.W.tabIn K "_law_deed" = some (c_law_deed, P_law_deed)) (TBlaw : LamX.TabB base mg claw Plaw) (htlaw : PySem.W.tabIn K "law" = some (claw, Plaw)) {fd : FuncData} (F : FunC K "law" "law" s_law fa claw fd) : FnOk P w K mg base CX0 10 fa fd ["_law_script"] (spLaw22 K P_law_deed Plaw) := by
  have T0 : TxA mg := ⟨PySem.W.mg_none_of X G D.zisinstance, PySem.W.mg_none_of X G D.zint, PySem.W.mg_none_of X G D.zbool, PySem.W.mg_none_of X G D.ztuple, PySem.W.mg_none_of X G D.zlen, PySem.W.mg_none_of X G D.zenumerate, D.last.mg X G, lim, D.most.mg X G⟩
  have TB : TxB mg := ⟨PySem.W.mg_none_of X G D.zsorted⟩
  have TL : TxL mg := ⟨PySem.W.mg_none_of X G D.zint, PySem.W.mg_none_of X G D.zlen, PySem.W.mg_none_of X G D.zrange, PySem.W.mg_none_of X G D.zmin⟩
  have TN : TxN mg := ⟨PySem.W.mg_none_of X G D.zrange, PySem.W.mg_none_of X G D.zsorted⟩
  have TK : TxK mg := ⟨PySem.W.mg_none_of X G D.zisinstance, PySem.W.mg_none_of X G D.zint, PySem.W.mg_none_of X G D.zbool, PySem.W.mg_none_of X G D.zstr, PySem.W.mg_none_of X G D.ztuple, PySem.W.mg_none_of X G D.zlist, PySem.W.mg_none_of X G D.zlen, PySem.W.mg_none_of X G D.zrange⟩
  have TU : TxU mg := ⟨PySem.W.mg_none_of X G D.zsorted, PySem.W.mg_none_of X G D.zset, PySem.W.mg_none_of X G D.zlen⟩
  have c_is_number : Cal P w K mg base 1 "is_number" ["value", "low", "high"] spIsNumber := by
    obtain ⟨f, fd, F1, g⟩ := D.fis_number.fn X G
    exact ⟨f, fd, ok_is_number F1 T0, g, F1.kp, F1.binds (ps := ["value", "low", "high"]) fun _ _ _ _ _ _ us hl => match us, hl with | [_, _, _], _ => rfl⟩
  have c_is_house : Cal P w K mg base 2 "is_house" ["value"] spIsHouse := by
    obtain ⟨f, fd, F1, g⟩ := D.fis_house.fn X G
    exact ⟨f, fd, ok_is_house F1 T0 c_is_number, g, F1.kp, F1.binds (ps := ["value"]) fun _ _ _ _ _ _ us hl => match us, hl with | [_], _ => rfl⟩
  have c_changes_of : Cal P w K mg base 1 "changes_of" ["weighed"] spChangesOf := by
    obtain ⟨f, fd, F1, g⟩ := D.fchanges_of.fn X G
    exact ⟨f, fd, ok_changes_of F1 , g, F1.kp, F1.binds (ps := ["weighed"]) fun _ _ _ _ _ _ us hl => match us, hl with | [_], _ => rfl⟩
  have c_reaching : Cal P w K mg base 2 "reaching" ["weighed", "least"] spReaching := by
    obtain ⟨f, fd, F1, g⟩ := D.freaching.fn X G
    exact ⟨f, fd, ok_reaching F1 TB c_changes_of, g, F1.kp, F1.binds (ps := ["weighed", "least"]) fun _ _ _ _ _ _ us hl => match us, hl with | [_, _], _ => rfl⟩
  have c_fewest : Cal P w K mg base 3 "fewest" ["rows"] spFewest := by
    obtain ⟨f, fd, F1, g⟩ := D.ffewest.fn X G
    exact ⟨f, fd, ok_fewest F1 c_reaching, g, F1.kp, F1.binds (ps := ["rows"]) fun _ _ _ _ _ _ us hl => match us, hl with | [_], _ => rfl⟩
  have c_held_by_many : Cal P w K mg base 4 "held_by_many" ["sets", "least"] spHeld := by
    obtain ⟨f, fd, F1, g⟩ := D.fheld_by_many.fn X G
    exact ⟨f, fd, ok_held_by_many F1 c_reaching c_fewest, g, F1.kp, F1.binds (ps := ["sets", "least"]) fun _ _ _ _ _ _ us hl => match us, hl with | [_, _], _ => rfl⟩
  have c_without : Cal P w K mg base 4 "without" ["one", "other"] spWithout := by
    obtain ⟨f, fd, F1, g⟩ := D.fwithout.fn X G
    exact ⟨f, fd, ok_without F1 c_reaching c_fewest, g, F1.kp, F1.binds (ps := ["one", "other"]) fun _ _ _ _ _ _ us hl => match us, hl with | [_, _], _ => rfl⟩
  have c__law_dice : Cal P w K mg base 1 "_law_dice" ["_law_script"] (spDice K) := by
    obtain ⟨f, fd, F1, g⟩ := D.f_law_dice.fn X G
    exact ⟨f, fd, ok_law_dice F1 TL, g, F1.kp, F1.binds (ps := ["_law_script"]) fun _ _ _ _ _ _ us hl => match us, hl with | [_], _ => rfl⟩
  have c__law_next : Cal P w K mg base 1 "_law_next" ["_law_dice_here", "_law_many"] (spNext K) := by
    obtain ⟨f, fd, F1, g⟩ := D.f_law_next.fn X G
    exact ⟨f, fd, ok_law_next F1 TL, g, F1.kp, F1.binds (ps := ["_law_dice_here", "_law_many"]) fun _ _ _ _ _ _ us hl => match us, hl with | [_, _], _ => rfl⟩
  have c__law_rows : Cal P w K mg base 2 "_law_rows" ["_law_d", "_law_houses", "_law_far", "_law_most"] (spRows K) := by
    obtain ⟨f, fd, F1, g⟩ := D.f_law_rows.fn X G
    exact ⟨f, fd, ok_law_rows F1 TL c__law_next, g, F1.kp, F1.binds (ps := ["_law_d", "_law_houses", "_law_far", "_law_most"]) fun _ _ _ _ _ _ us hl => match us, hl with | [_, _, _, _], _ => rfl⟩
  have c__law_names : Cal P w K mg base 1 "_law_names" ["_law_rows_here"] spNames := by
    obtain ⟨f, fd, F1, g⟩ := D.f_law_names.fn X G
    exact ⟨f, fd, ok_law_names F1 TN, g, F1.kp, F1.binds (ps := ["_law_rows_here"]) fun _ _ _ _ _ _ us hl => match us, hl with | [_], _ => rfl⟩
  have c__law_told_rows : Cal P w K mg base 1 "_law_told_rows" ["_law_names_here"] spTold := by
    obtain ⟨f, fd, F1, g⟩ := D.f_law_told_rows.fn X G
    exact ⟨f, fd, ok_law_told_rows F1 , g, F1.kp, F1.binds (ps := ["_law_names_here"]) fun _ _ _ _ _ _ us hl => match us, hl with | [_], _ => rfl⟩
  have c_check_many : Cal P w K mg base 2 "check_many" ["many"] spCheckMany := by
    obtain ⟨f, fd, F1, g⟩ := D.fcheck_many.fn X G
    exact ⟨f, fd, ok_check_many F1 (D.leasth.mg X G) (D.mosth.mg X G) c_is_number, g, F1.kp, F1.binds (ps := ["many"]) fun _ _ _ _ _ _ us hl => match us, hl with | [_], _ => rfl⟩
  have c__law_shown : Cal P w K mg base 1 "_law_shown" ["_law_many", "_law_kept"] spLShown := by
    obtain ⟨f, fd, F1, g⟩ := D.f_law_shown.fn X G
    exact ⟨f, fd, ok_law_shown F1 TU, g, F1.kp, F1.binds (ps := ["_law_many", "_law_kept"]) fun _ _ _ _ _ _ us hl => match us, hl with | [_, _], _ => rfl⟩
  have c__law_like : Cal P w K mg base 5 "_law_like" ["_law_found", "_law_due"] (spLike 4) := by
    obtain ⟨f, fd, F1, g⟩ := D.f_law_like.fn X G
    have bd : Binds K fd ["_law_found", "_law_due"] [] := F1.binds (ps := ["_law_found", "_law_due"]) fun _ _ _ _ _ _ us hl => match us, hl with | [_, _], _ => rfl
    have c0 : FnOk P w K mg base CX0 1 f fd ["_law_found", "_law_due"] (spLike 0) := ⟨fun vs H Q E z => by obtain ⟨_, _, _, z, _⟩ := z; exact z.elim, fun A outer s H args us vs Q E _ _ _ _ z => by obtain ⟨_, _, _, z, _⟩ := z; exact z.elim⟩
    have c1 := ok_law_like (n := 0) F1 TK ⟨f, fd, c0, g, F1.kp, bd⟩
    have c2 := ok_law_like (n := 1) F1 TK ⟨f, fd, c1, g, F1.kp, bd⟩
    have c3 := ok_law_like (n := 2) F1 TK ⟨f, fd, c2, g, F1.kp, bd⟩
    have c4 := ok_law_like (n := 3) F1 TK ⟨f, fd, c3, g, F1.kp, bd⟩
    exact ⟨f, fd, c4, g, F1.kp, bd⟩
  have TC : ToldC K mg := toldC_mk X G D.exall (PySem.W.mg_none_of X G D.zisinstance) (PySem.W.mg_none_of X G D.zValueError)
  have c_is_row : Cal P w K mg base 3 "is_row" ["row"] spIsRowX := by
    obtain ⟨f, fd, F1, g⟩ := D.fis_row.fn X G
    exact ⟨f, fd, ok_is_rowX F1 T0 c_is_number c_is_house, g, F1.kp, F1.binds (ps := ["row"]) fun _ _ _ _ _ _ us hl => match us, hl with | [_], _ => rfl⟩
  have c_first_wrong : Cal P w K mg base 4 "first_wrong" ["rows"] spFirstWrongX := by
    obtain ⟨f, fd, F1, g⟩ := D.ffirst_wrong.fn X G
    exact ⟨f, fd, ok_first_wrongX F1 T0 c_is_row, g, F1.kp, F1.binds (ps := ["rows"]) fun _ _ _ _ _ _ us hl => match us, hl with | [_], _ => rfl⟩
  have XC : ExCal P w K mg base 0 "at" := by
    obtain ⟨C0, fI, oc, od, an, osl, kV, doc, pm, cdv, ct, a, ox, i, t, l, c1, k, n⟩ := D.ex0
    have F1 := fun_mk (st := s_BadStretches___init__) l c1 k
    have e : exC K 0 = C0 := exC_of 0 rfl a
    exact ⟨fI, _, by rw [e]; exact ox, by rw [e]; exact i, t, ok_exInit F1 TC.gD D.base, F1.binds (ps := ["self", "at"]) (fun _ _ _ _ _ _ us hl => match us, hl with | [_, _], _ => rfl), by rw [e]; exact n, TC.g 0 (by decide)⟩
  have c_check_rows : CalX P w K mg base 5 "check_rows" ["rows"] (spCheckRowsX K) := by
    obtain ⟨f, fd, F1, g⟩ := D.fcheck_rows.fn X G
    exact ⟨f, fd, ok_check_rowsX F1 XC c_first_wrong, g, F1.kp, F1.binds (ps := ["rows"]) fun _ _ _ _ _ _ us hl => match us, hl with | [_], _ => rfl⟩
  have X1 : ExMk K mg 1 := exMk_of TC (by decide) D.ex1
  have X6 : ExMk K mg 6 := exMk_of TC (by decide) D.ex6
  have c_check_one_of : CalX P w K mg base 2 "check_one_of" ["which", "many"] (spCheckOneX K) := by
    obtain ⟨f, fd, F1, g⟩ := D.fcheck_one_of.fn X G
    exact ⟨f, fd, ok_check_oneX F1 X1 c_is_number, g, F1.kp, F1.binds (ps := ["which", "many"]) fun _ _ _ _ _ _ us hl => match us, hl with | [_, _], _ => rfl⟩
  obtain ⟨C, I⟩ := D.seat
  have T : TxQ K mg C := ⟨⟨I.pg, I.hd, I.po, I.sa⟩, I.n_many, I.n_answers, I.n_told, I.n_begun, PySem.W.mg_none_of X G D.zlist, PySem.W.mg_none_of X G D.zlen⟩
  have gS := PySem.W.mg_of X G I.aC
  have m__most : CalM P w K mg base C 1 "_most" ["self"] (spMost C) := by
    obtain ⟨f, oc, od, an, osl, kV, doc, pm, cdv, ct, a, i, l, c1, k⟩ := I.m__most
    have F1 := fun_mk (st := s_Lead__most) l c1 k
    exact ⟨f, _, ok_Lead__most F1 T, ⟨a, i, k⟩, F1.binds (ps := ["self"]) fun _ _ _ _ _ _ us hl => match us, hl with | [_], _ => rfl⟩
  have m__check_begun : CalMX P w K mg base C 1 "_check_begun" ["self"] (spCheckBegun K C) := by
    obtain ⟨f, oc, od, an, osl, kV, doc, pm, cdv, ct, a, i, l, c1, k⟩ := I.m__check_begun
    have F1 := fun_mk (st := s_Lead__check_begun) l c1 k
    exact ⟨f, _, ok_Lead__check_begun F1 T X6, ⟨a, i, k⟩, F1.binds (ps := ["self"]) fun _ _ _ _ _ _ us hl => match us, hl with | [_], _ => rfl⟩
  have m_leads : CalM P w K mg base C 1 "leads" ["self"] (spLeads C) := by
    obtain ⟨f, oc, od, an, osl, kV, doc, pm, cdv, ct, a, i, l, c1, k⟩ := I.m_leads
    have F1 := fun_mk (st := s_Lead_leads) l c1 k
    exact ⟨f, _, ok_Lead_leads F1 T, ⟨a, i, k⟩, F1.binds (ps := ["self"]) fun _ _ _ _ _ _ us hl => match us, hl with | [_], _ => rfl⟩
  have m_heard : CalMX P w K mg base C 6 "heard" ["self", "seat", "rows"] (spHeard K C) := by
    obtain ⟨f, oc, od, an, osl, kV, doc, pm, cdv, ct, a, i, l, c1, k⟩ := I.m_heard
    have F1 := fun_mk (st := s_Lead_heard) l c1 k
    exact ⟨f, _, ok_Lead_heard F1 T c_check_one_of c_check_rows c_fewest, ⟨a, i, k⟩, F1.binds (ps := ["self", "seat", "rows"]) fun _ _ _ _ _ _ us hl => match us, hl with | [_, _, _], _ => rfl⟩
  have m_must : CalMX P w K mg base C 5 "must" ["self"] (spMust K C) := by
    obtain ⟨f, oc, od, an, osl, kV, doc, pm, cdv, ct, a, i, l, c1, k⟩ := I.m_must
    have F1 := fun_mk (st := s_Lead_must) l c1 k
    exact ⟨f, _, ok_Lead_must F1 T X6 m__most c_held_by_many, ⟨a, i, k⟩, F1.binds (ps := ["self"]) fun _ _ _ _ _ _ us hl => match us, hl with | [_], _ => rfl⟩
  have m_begin : CalMX P w K mg base C 6 "begin" ["self", "rows"] (spBegin K C) := by
    obtain ⟨f, oc, od, an, osl, kV, doc, pm, cdv, ct, a, i, l, c1, k⟩ := I.m_begin
    have F1 := fun_mk (st := s_Lead_begin) l c1 k
    exact ⟨f, _, ok_Lead_begin F1 T X6 c_check_rows m_must c_without, ⟨a, i, k⟩, F1.binds (ps := ["self", "rows"]) fun _ _ _ _ _ _ us hl => match us, hl with | [_, _], _ => rfl⟩
  have m_kept : CalMX P w K mg base C 6 "kept" ["self", "seat", "rows"] (spLKept2 K C) := by
    obtain ⟨f, oc, od, an, osl, kV, doc, pm, cdv, ct, a, i, l, c1, k⟩ := I.m_kept
    have F1 := fun_mk (st := s_Lead_kept) l c1 k
    exact ⟨f, _, ok_Lead_kept F1 T c_check_one_of c_check_rows c_fewest m__check_begun, ⟨a, i, k⟩, F1.binds (ps := ["self", "seat", "rows"]) fun _ _ _ _ _ _ us hl => match us, hl with | [_, _, _], _ => rfl⟩
  have m_shown : CalMX P w K mg base C 5 "shown" ["self"] (spShown K C) := by
    obtain ⟨f, oc, od, an, osl, kV, doc, pm, cdv, ct, a, i, l, c1, k⟩ := I.m_shown
    have F1 := fun_mk (st := s_Lead_shown) l c1 k
    exact ⟨f, _, ok_Lead_shown F1 T m__most c_held_by_many m__check_begun, ⟨a, i, k⟩, F1.binds (ps := ["self"]) fun _ _ _ _ _ _ us hl => match us, hl with | [_], _ => rfl⟩
  obtain ⟨fI, oc, od, an, osl, kV, doc, pm, cdv, ct, a, i, l, c1, k⟩ := I.m_init
  have FI := fun_mk (st := s_Lead___init__) l c1 k
  have GI := ok_Lead___init__ (P := P) (w := w) (base := base) FI T c_check_many
  obtain ⟨ft, fdt, Ft, gt⟩ := D.f_law_told.fn X G
  have c__law_deed : Cal P w K mg base 9 "_law_deed" ["_law_d", "_law_lead", "_law_own"] (spDeed22 K C P_law_deed) := by
    obtain ⟨f, oc, od, an, osl, kV, doc, pm, cdv, ct, a, l, c1, k⟩ := D.f_law_deed
    have e : cdv = .ref c_law_deed := PySem.W.law_code X G ht_law_deed (PySem.W.mg_of X G a) (X _ _ l) rfl
    subst e
    exact ⟨f, _, ok_law_deed ⟨⟨oc, od, kV, doc, pm, an, ct, osl, rfl, l, c1⟩⟩ ⟨TB_law_deed.code, TB_law_deed.bm, TB_law_deed.gP⟩ T TU TC Ft gt ⟨c__law_next, c__law_rows, c__law_names, c__law_told_rows, c__law_like, m_heard, m_begin, m_kept⟩, PySem.W.mg_of X G a, k,
      (fun_mk (st := s_law_deed) l c1 k).binds (ps := ["_law_d", "_law_lead", "_law_own"]) fun _ _ _ _ _ _ us hl => match us, hl with | [_, _, _], _ => rfl⟩
  exact ok_law F ⟨TBlaw.code, TBlaw.bm, TBlaw.gP⟩ T TU TK TC Ft gt (PySem.W.mg_none_of X G D.zrange) ⟨c__law_dice, c__law_next, c__law_told_rows, c__law_shown, c__law_like, c__law_deed, m_must, m_shown, m_leads⟩ ⟨I.mks, a, i, I.kc⟩ gS GI (FI.binds (ps := ["self", "many"]) fun _ _ _ _ _ _ us hl => match us, hl with | [_, _], _ => rfl)
theorem walk {l : PySem.W.OpenLaw} {q : Program} {loose : List Str} {lv : List (Str × PySem.W.WData)} {YP : World → Heap → Prop} {d : DefRec} {K : Params → PySem.W.Frag} (hn : l.most = some 63) (hdf : d.params.defaults = []) (hnm : d.name = "law")
    (hY : ∀ (w : World) (h : Heap), YP w h → (K w.params).In h) (hrec_law_deed : ((recsOf q).find? (fun e => e.name == ("_law_deed" : Str))).isSome = true) (hreclaw : ((recsOf q).find? (fun e => e.name == ("law" : Str))).isSome = true) (hlv : (("LIMIT" : Str), PySem.W.WData.int LIM) ∈ lv) (D : ∀ w : World, Head (K w.params)) :
    PySem.W.WalkO q loose (PySem.W.XL q lv) YP l.row.toRowW d [] (fun f vs => PySem.call f vs) := by
  refine Att.attach_callB hn hdf fun w s₀ s₁ mg mb fa o pm cd doc a vs ns G Y ho hd hcd hmg hobj hints hlen hbits hg => ?_
  have KX := hY w _ Y
  have Dw := D w
  rw [hnm] at hmg
  obtain ⟨f, oc, od, an, osl, kV, doc', pm', cdv, ct, a1, l1, c1, k1⟩ := Dw.flaw
  have e := hmg.symm.trans (PySem.W.mg_of KX G.T.g a1)
  cases e
  have lim : ∃ t, mg "LIMIT" = some (.int LIM t) := by
    obtain ⟨v, hv, hr⟩ := G.X.2.val _ hlv
    cases hr
    exact ⟨_, hv⟩
  obtain ⟨c_law_deed, P_law_deed, t_law_deed, n_law_deed⟩ := tab_ok Dw.t_law_deed
  obtain ⟨d_law_deed, hd_law_deed⟩ := Option.isSome_iff_exists.mp hrec_law_deed
  obtain ⟨hc_law_deed, hP_law_deed⟩ := PySem.W.tab_of G.T KX hd_law_deed t_law_deed
  obtain ⟨claw, Plaw, tlaw, nlaw⟩ := tab_ok Dw.tlaw
  obtain ⟨dlaw, hdlaw⟩ := Option.isSome_iff_exists.mp hreclaw
  obtain ⟨hclaw, hPlaw⟩ := PySem.W.tab_of G.T KX hdlaw tlaw
  have one : ∀ {φ : Addr × Addr → Prop} (h_law_deed : φ (c_law_deed, P_law_deed)) (hlaw : φ (claw, Plaw)), ∀ p ∈ [(c_law_deed, P_law_deed), (claw, Plaw)], φ p := fun h_law_deed hlaw p hp => by
    simp only [List.mem_cons, List.not_mem_nil, or_false] at hp
    rcases hp with rfl | rfl
    · exact h_law_deed
    · exact hlaw
  have ecd : cdv = .ref claw := PySem.W.law_code KX G.T.g tlaw (PySem.W.mg_of KX G.T.g a1) (KX _ _ l1) rfl
  subst ecd
  exact LamX.law_callTs (cs := [(c_law_deed, P_law_deed), (claw, Plaw)]) (k := 10) (x := "_law_script") (CX := CX0) (sp := spLaw22 (K w.params) P_law_deed Plaw) KX G.T.g G.T.b G.T.builtins G.T.nolimit hg (one hP_law_deed hPlaw) (one n_law_deed nlaw) (one hc_law_deed hclaw) G.T.bmain hobj hints (Nat.le_trans hlen (by decide)) ⟨rfl, by decide, by decide⟩
    (fun base _ _ hT => all_ok Dw KX G.T.g lim (tab_conv (hT _ List.mem_cons_self)) t_law_deed (tab_conv (hT _ (List.mem_cons_of_mem _ List.mem_cons_self))) tlaw ⟨⟨oc, od, kV, doc', pm', an, ct, osl, rfl, l1, c1⟩⟩) (fun s u => .of_eq rfl) (fun H hH hS => ⟨a, ns, rfl, hS, hH _ List.mem_cons_self, hH _ (List.mem_cons_of_mem _ List.mem_cons_self), tab_ne Dw.tne t_law_deed tlaw, fun _ => rfl⟩) fun H e s' z => z
end Rw
open PySem PySem.W PyProof.Rows in
set_option maxRecDepth 100000 in
set_option maxHeartbeats 0 in
theorem PySem.Challenge.cw_doneranges_k22_leads_holds : PySem.Challenge.rw_doneranges_k22_leads.Holds := by
  w_on; o_law; k_head; (case hw => w_witness2)
  k_fill
  refine Rw.walk (l := PySem.Challenge.rw_doneranges_k22_leads) rfl rfl rfl (fun w h Y => PySem.W.km_in_of Y) ?rec_law_deed ?reclaw List.mem_cons_self ?D
  case rec_law_deed => decide +kernel
  case reclaw => decide +kernel
  case D =>
    intro w
    constructor
    case fis_number => refine' Rw.has_mk ?a ?l ?c ?k; (case a => k_is); (case l => k_is); (case c => k_is); (case k => k_is)
    case fis_house => refine' Rw.has_mk ?a ?l ?c ?k; (case a => k_is); (case l => k_is); (case c => k_is); (case k => k_is)
    case fchanges_of => refine' Rw.has_mk ?a ?l ?c ?k; (case a => k_is); (case l => k_is); (case c => k_is); (case k => k_is)
    case freaching => refine' Rw.has_mk ?a ?l ?c ?k; (case a => k_is); (case l => k_is); (case c => k_is); (case k => k_is)
    case ffewest => refine' Rw.has_mk ?a ?l ?c ?k; (case a => k_is); (case l => k_is); (case c => k_is); (case k => k_is)
    case fheld_by_many => refine' Rw.has_mk ?a ?l ?c ?k; (case a => k_is); (case l => k_is); (case c => k_is); (case k => k_is)
    case fwithout => refine' Rw.has_mk ?a ?l ?c ?k; (case a => k_is); (case l => k_is); (case c => k_is); (case k => k_is)
    case f_law_dice => refine' Rw.has_mk ?a ?l ?c ?k; (case a => k_is); (case l => k_is); (case c => k_is); (case k => k_is)
    case f_law_next => refine' Rw.has_mk ?a ?l ?c ?k; (case a => k_is); (case l => k_is); (case c => k_is); (case k => k_is)
    case f_law_rows => refine' Rw.has_mk ?a ?l ?c ?k; (case a => k_is); (case l => k_is); (case c => k_is); (case k => k_is)
    case f_law_names => refine' Rw.has_mk ?a ?l ?c ?k; (case a => k_is); (case l => k_is); (case c => k_is); (case k => k_is)
    case f_law_told_rows => refine' Rw.has_mk ?a ?l ?c ?k; (case a => k_is); (case l => k_is); (case c => k_is); (case k => k_is)
    case fcheck_many => refine' Rw.has_mk ?a ?l ?c ?k; (case a => k_is); (case l => k_is); (case c => k_is); (case k => k_is)
    case f_law_shown => refine' Rw.has_mk ?a ?l ?c ?k; (case a => k_is); (case l => k_is); (case c => k_is); (case k => k_is)
    case f_law_like => refine' Rw.has_mk ?a ?l ?c ?k; (case a => k_is); (case l => k_is); (case c => k_is); (case k => k_is)
    case fis_row => refine' Rw.has_mk ?a ?l ?c ?k; (case a => k_is); (case l => k_is); (case c => k_is); (case k => k_is)
    case ffirst_wrong => refine' Rw.has_mk ?a ?l ?c ?k; (case a => k_is); (case l => k_is); (case c => k_is); (case k => k_is)
    case fcheck_rows => refine' Rw.has_mk ?a ?l ?c ?k; (case a => k_is); (case l => k_is); (case c => k_is); (case k => k_is)
    case fcheck_one_of => refine' Rw.has_mk ?a ?l ?c ?k; (case a => k_is); (case l => k_is); (case c => k_is); (case k => k_is)
    case f_law_told => refine' Rw.has_mk ?a ?l ?c ?k; (case a => k_is); (case l => k_is); (case c => k_is); (case k => k_is)
    case f_law_deed => refine' Rw.has_mk ?a ?l ?c ?k; (case a => k_is); (case l => k_is); (case c => k_is); (case k => k_is)
    case flaw => refine' Rw.has_mk ?a ?l ?c ?k; (case a => k_is); (case l => k_is); (case c => k_is); (case k => k_is)
    case last => refine' Rw.int_mk ?a; (case a => k_is)
    case most => refine' Rw.int_mk ?a; (case a => k_is)
    case leasth => refine' Rw.int_mk ?a; (case a => k_is)
    case mosth => refine' Rw.int_mk ?a; (case a => k_is)
    case t_law_deed => kernel_rfl
    case tlaw => kernel_rfl
    case zisinstance => k_is
    case zint => k_is
    case zbool => k_is
    case zstr => k_is
    case ztuple => k_is
    case zlist => k_is
    case zlen => k_is
    case zenumerate => k_is
    case zsorted => k_is
    case zset => k_is
    case zrange => k_is
    case zmin => k_is
    case zValueError => k_is
    case seat =>
      refine' Rw.seat_mk ?I
      (case I => constructor; (case aC => k_is); (case pg => k_is); (case hd => k_is); (case po => k_is); (case sa => k_is); (case mks => k_is); (case kc => k_is); (case n_many => k_is); (case n_answers => k_is); (case n_told => k_is); (case n_begun => k_is); (case m__most => refine' Rw.meth_mk ?a ?i ?l ?c ?k; (case a => k_is); (case i => k_is); (case l => k_is); (case c => k_is); (case k => k_is)); (case m__check_begun => refine' Rw.meth_mk ?a ?i ?l ?c ?k; (case a => k_is); (case i => k_is); (case l => k_is); (case c => k_is); (case k => k_is)); (case m_leads => refine' Rw.meth_mk ?a ?i ?l ?c ?k; (case a => k_is); (case i => k_is); (case l => k_is); (case c => k_is); (case k => k_is)); (case m_heard => refine' Rw.meth_mk ?a ?i ?l ?c ?k; (case a => k_is); (case i => k_is); (case l => k_is); (case c => k_is); (case k => k_is)); (case m_must => refine' Rw.meth_mk ?a ?i ?l ?c ?k; (case a => k_is); (case i => k_is); (case l => k_is); (case c => k_is); (case k => k_is)); (case m_begin => refine' Rw.meth_mk ?a ?i ?l ?c ?k; (case a => k_is); (case i => k_is); (case l => k_is); (case c => k_is); (case k => k_is)); (case m_kept => refine' Rw.meth_mk ?a ?i ?l ?c ?k; (case a => k_is); (case i => k_is); (case l => k_is); (case c => k_is); (case k => k_is)); (case m_shown => refine' Rw.meth_mk ?a ?i ?l ?c ?k; (case a => k_is); (case i => k_is); (case l => k_is); (case c => k_is); (case k => k_is)); (case m_init => refine' Rw.meth_mk ?a ?i ?l ?c ?k; (case a => k_is); (case i => k_is); (case l => k_is); (case c => k_is); (case k => k_is)))
    case ex0 => refine' Rw.ex0_mk ?a ?lc ?sa ?ec ?ty ?kc ?i ?t ?l ?c ?k ?n; (case a => k_is); (case lc => kernel_rfl); (case sa => k_is); (case ec => k_is); (case ty => k_is); (case kc => k_is); (case i => k_is); (case t => k_is); (case l => k_is); (case c => k_is); (case k => k_is); (case n => k_is)
    case ex1 => kernel_rfl
    case ex6 => kernel_rfl
    case tne => kernel_rfl
    case exall => kernel_rfl
    case base => constructor; (case rd => kernel_rfl); (case ga => kernel_rfl); (case fi => kernel_rfl)
#print axioms PySem.Challenge.cw_doneranges_k22_leads_holds
