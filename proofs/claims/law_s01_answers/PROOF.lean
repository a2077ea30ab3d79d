import PyProof.Rows.All
import PyVapcma
import Wide.All
import OpenK.AllK
import Wide.FinOn
import PyProof.EqAt
import PyProof.EqKinds
import PyProof.TupleCall
import Open.SpecLaws
import KE.OsGo
import HandS.ForSpec
import HandS.ForMost
import HandS.TryMany
import HandS.FStr
import HandS.SetKeys
import HandS.More
import HandS.StrMore
import HandS.Conv
import HandS.Codes
import HandS.Rev
import HandS.Zip
import HandS.Flow
import HandS.Style
import PySem.Challenge.RW_detachedrows_s01_answers
import KE.KEqSeq
import KE.KDictList
import KE.KDictZip
import HandS.ExcField
import HandS.ExcSuper
import HandS.WordsExc
import HandS.Walk
set_option Elab.async false
set_option linter.all false
set_option maxRecDepth 100000
set_option maxHeartbeats 4000000
namespace Dr
open Vapcma

/-! ## Signs: a formula as the list of its signs -/
def enc : Form → List Nat
  | .var v => [v + 2]
  | .imp a b => 0 :: (enc a ++ enc b)
  | .neg a => 1 :: enc a
def flat (ts : List Form) : List Nat := ts.flatMap enc
@[simp] theorem flat_nil : flat [] = [] := rfl
@[simp] theorem flat_cons (t : Form) (ts : List Form) : flat (t :: ts) = enc t ++ flat ts := rfl
theorem enc_length : ∀ f : Form, (enc f).length = size f
  | .var _ => rfl
  | .imp a b => by simp [enc, size, enc_length a, enc_length b]
  | .neg a => by simp [enc, size, enc_length a]
theorem size_pos : ∀ f : Form, 0 < size f
  | .var _ => by simp [size]
  | .imp a b => by simp [size]
  | .neg a => by simp [size]
theorem enc_ne_nil (f : Form) : enc f ≠ [] := by
  intro h
  have := enc_length f
  have := size_pos f
  simp_all
/-- reading signs off: the code is one that can be read back -/
theorem enc_inj_app : ∀ (f g : Form) (r s : List Nat), enc f ++ r = enc g ++ s → f = g ∧ r = s
  | .var v, .var w, r, s, h => by
    simp [enc] at h
    exact ⟨by rw [h.1], h.2⟩
  | .var v, .imp a b, r, s, h => by simp [enc] at h
  | .var v, .neg a, r, s, h => by simp [enc] at h
  | .imp a b, .var v, r, s, h => by simp [enc] at h
  | .imp a b, .neg c, r, s, h => by simp [enc] at h
  | .neg a, .var v, r, s, h => by simp [enc] at h
  | .neg a, .imp c d, r, s, h => by simp [enc] at h
  | .neg a, .neg b, r, s, h => by
    simp only [enc, List.cons_append, List.cons.injEq, true_and] at h
    have := enc_inj_app a b r s h
    exact ⟨by rw [this.1], this.2⟩
  | .imp a b, .imp c d, r, s, h => by
    simp only [enc, List.cons_append, List.cons.injEq, true_and, List.append_assoc] at h
    have h1 := enc_inj_app a c _ _ h
    have h2 := enc_inj_app b d r s h1.2
    exact ⟨by rw [h1.1, h2.1], h2.2⟩
theorem enc_inj {f g : Form} (h : enc f = enc g) : f = g := (enc_inj_app f g [] [] (by simp [h])).1
/-- what a sign asks for: how many parts it makes fewer, as a whole number -/
def wt : Nat → Int
  | 0 => 1
  | 1 => 0
  | _ => -1
def wsum (l : List Nat) : Int := (l.map wt).sum
theorem wsum_append (a b : List Nat) : wsum (a ++ b) = wsum a + wsum b := by simp [wsum]
theorem wsum_cons (a : Nat) (b : List Nat) : wsum (a :: b) = wt a + wsum b := by simp [wsum]
theorem wsum_enc : ∀ f : Form, wsum (enc f) = -1
  | .var v => by simp [enc, wsum, wt]
  | .imp a b => by simp [enc, wsum_cons, wsum_append, wsum_enc a, wsum_enc b, wt]
  | .neg a => by simp [enc, wsum_cons, wsum_enc a, wt]
theorem wsum_flat : ∀ ts : List Form, wsum (flat ts) = -(ts.length : Int)
  | [] => by simp [wsum]
  | t :: ts => by simp [wsum_append, wsum_enc, wsum_flat ts]; omega
/-- each end of a formula's signs that is not empty asks for none more -/
theorem wsum_suffix : ∀ (f : Form) (p s : List Nat), enc f = p ++ s → s ≠ [] → wsum s ≤ -1
  | .var v, [], s, h, _ => by rw [List.nil_append] at h; rw [← h, wsum_enc]; omega
  | .var v, x :: p, s, h, hs => by
    simp only [enc, List.cons_append, List.cons.injEq] at h
    have := List.append_eq_nil_iff.mp h.2.symm
    exact absurd this.2 hs
  | .neg a, [], s, h, _ => by rw [List.nil_append] at h; rw [← h, wsum_enc]; omega
  | .neg a, x :: p, s, h, hs => by
    simp only [enc, List.cons_append, List.cons.injEq] at h
    exact wsum_suffix a p s h.2 hs
  | .imp a b, [], s, h, _ => by rw [List.nil_append] at h; rw [← h, wsum_enc]; omega
  | .imp a b, x :: p, s, h, hs => by
    simp only [enc, List.cons_append, List.cons.injEq] at h
    rcases List.append_eq_append_iff.mp h.2 with ⟨c, h1, h2⟩ | ⟨c, h1, h2⟩
    · exact wsum_suffix b c s h2 hs
    · rw [h2, wsum_append, wsum_enc]
      by_cases hc : c = []
      · subst hc; simp [wsum]
      · have := wsum_suffix a p c h1 hc
        omega
theorem suf_imp {f : Form} {p : List Nat} {ts : List Form} (h : enc f = p ++ 0 :: flat ts) : ∃ a b r, ts = a :: b :: r := by
  have := wsum_suffix f p (0 :: flat ts) h (by simp)
  rw [wsum_cons, wsum_flat] at this
  have e : wt 0 = 1 := rfl
  rw [e] at this
  match ts, this with
  | [], h => simp at h
  | [a], h => simp at h
  | a :: b :: r, _ => exact ⟨a, b, r, rfl⟩
theorem suf_neg {f : Form} {p : List Nat} {ts : List Form} (h : enc f = p ++ 1 :: flat ts) : ∃ a r, ts = a :: r := by
  have := wsum_suffix f p (1 :: flat ts) h (by simp)
  rw [wsum_cons, wsum_flat] at this
  have e : wt 1 = 0 := rfl
  rw [e] at this
  match ts, this with
  | [], h => simp at h
  | a :: r, _ => exact ⟨a, r, rfl⟩
theorem suf_all {f : Form} {ts : List Form} (h : enc f = flat ts) : ts = [f] := by
  match ts, h with
  | [], h => exact absurd h (enc_ne_nil f)
  | t :: r, h =>
    have h' : enc f ++ [] = enc t ++ flat r := by simpa using h
    have := enc_inj_app f t [] (flat r) h'
    match r, this with
    | [], this => rw [this.1]
    | u :: r, this =>
      have h2 := this.2
      simp only [flat_cons] at h2
      exact absurd (List.append_eq_nil_iff.mp h2.symm).1 (enc_ne_nil u)

/-! ## Numbering by the first coming -/
section num
variable {α : Type} [BEq α] [LawfulBEq α]
def addKey (ks : List α) (a : α) : List α := if ks.contains a then ks else ks ++ [a]
def keysOf (ks : List α) (l : List α) : List α := l.foldl addKey ks
def idx (ks : List α) (a : α) : Nat := ks.findIdx fun x => x == a
@[simp] theorem keysOf_nil (ks : List α) : keysOf ks [] = ks := rfl
@[simp] theorem keysOf_cons (ks : List α) (a : α) (l : List α) : keysOf ks (a :: l) = keysOf (addKey ks a) l := rfl
theorem keysOf_append (ks l m : List α) : keysOf ks (l ++ m) = keysOf (keysOf ks l) m := List.foldl_append
theorem addKey_pre (ks : List α) (a : α) : ∃ r, addKey ks a = ks ++ r := by
  unfold addKey
  split
  · exact ⟨[], by simp⟩
  · exact ⟨[a], rfl⟩
theorem keysOf_pre : ∀ (l ks : List α), ∃ r, keysOf ks l = ks ++ r
  | [], ks => ⟨[], by simp⟩
  | a :: l, ks => by
    obtain ⟨r, h⟩ := addKey_pre ks a
    obtain ⟨s, k⟩ := keysOf_pre l (addKey ks a)
    exact ⟨r ++ s, by rw [keysOf_cons, k, h, List.append_assoc]⟩
theorem mem_addKey_self (ks : List α) (a : α) : a ∈ addKey ks a := by
  unfold addKey
  split
  · rename_i h
    exact List.contains_iff_mem.mp h
  · simp
theorem mem_addKey {ks : List α} {a b : α} : b ∈ addKey ks a ↔ b ∈ ks ∨ b = a := by
  unfold addKey
  split
  · rename_i h
    have := List.contains_iff_mem.mp h
    constructor
    · exact Or.inl
    · rintro (h | rfl)
      · exact h
      · exact this
  · simp
theorem mem_keysOf : ∀ {l ks : List α} {b : α}, b ∈ keysOf ks l ↔ b ∈ ks ∨ b ∈ l
  | [], ks, b => by simp
  | a :: l, ks, b => by
    rw [keysOf_cons, mem_keysOf (l := l), mem_addKey, List.mem_cons, or_assoc]
theorem idx_lt {ks : List α} {a : α} (h : a ∈ ks) : idx ks a < ks.length :=
  List.findIdx_lt_length_of_exists ⟨a, h, by simp⟩
theorem idx_pre {ks : List α} {a : α} (r : List α) (h : a ∈ ks) : idx (ks ++ r) a = idx ks a := by
  unfold idx
  rw [List.findIdx_append]
  have := idx_lt h
  unfold idx at this
  rw [if_pos this]
theorem idx_new {ks : List α} {a : α} (h : a ∉ ks) : idx (ks ++ [a]) a = ks.length := by
  unfold idx
  rw [List.findIdx_append]
  have e : List.findIdx (fun x => x == a) ks = ks.length := by
    rw [List.findIdx_eq_length]
    intro x hx
    cases hc : x == a
    · rfl
    · exact absurd (by rw [← eq_of_beq hc]; exact hx) h
  rw [if_neg (by omega)]
  simp [List.findIdx_cons]
theorem get_idx {ks : List α} {a : α} (h : a ∈ ks) : ks[idx ks a]? = some a := by
  have hl := idx_lt h
  rw [List.getElem?_eq_getElem hl]
  exact congrArg some (eq_of_beq (List.findIdx_getElem (p := fun x => x == a) (w := hl)))
theorem idx_inj {ks : List α} {a b : α} (ha : a ∈ ks) (hb : b ∈ ks) (h : idx ks a = idx ks b) : a = b := by
  have h1 := get_idx ha
  have h2 := get_idx hb
  rw [h, h2] at h1
  exact (Option.some.inj h1).symm
theorem keysOf_idx {ks : List α} {a : α} (l : List α) (h : a ∈ ks) : idx (keysOf ks l) a = idx ks a := by
  obtain ⟨r, e⟩ := keysOf_pre l ks
  rw [e, idx_pre r h]
theorem addKey_filter {p : α → Bool} (ks : List α) (a : α) : (addKey ks a).filter p = if p a then addKey (ks.filter p) a else ks.filter p := by
  unfold addKey
  by_cases hp : p a = true
  · simp only [hp, if_true]
    by_cases hc : a ∈ ks
    · rw [if_pos (List.contains_iff_mem.mpr hc), if_pos (List.contains_iff_mem.mpr (List.mem_filter.mpr ⟨hc, hp⟩))]
    · rw [if_neg (fun h => hc (List.contains_iff_mem.mp h)), if_neg (fun h => hc (List.mem_filter.mp (List.contains_iff_mem.mp h)).1)]
      simp [List.filter_append, hp]
  · have hp' : p a = false := by simpa using hp
    simp only [hp', Bool.false_eq_true, if_false]
    split
    · rfl
    · simp [List.filter_append, hp']
theorem keysOf_nodup : ∀ (l ks : List α), ks.Nodup → (keysOf ks l).Nodup
  | [], ks, h => h
  | a :: l, ks, h => by
    rw [keysOf_cons]
    refine keysOf_nodup l _ ?_
    unfold addKey
    split
    · exact h
    · rename_i hc
      rw [List.nodup_append]
      refine ⟨h, by simp, ?_⟩
      intro x hx y hy e
      simp only [List.mem_singleton] at hy
      subst hy
      subst e
      exact hc (List.contains_iff_mem.mpr hx)
/-- numbering in the specification's way -/
theorem keysOf_filter : ∀ (l ks : List α), keysOf ks l = ks ++ (l.filter fun b => !ks.contains b).eraseDups
  | [], ks => by simp
  | a :: l, ks => by
    rw [keysOf_cons, keysOf_filter l]
    unfold addKey
    by_cases h : ks.contains a = true
    · rw [if_pos h, List.filter_cons_of_neg (by rw [h]; decide)]
    · have h' : ks.contains a = false := by simpa using h
      rw [if_neg h, List.filter_cons_of_pos (by rw [h']; rfl), List.eraseDups_cons, List.append_assoc, List.filter_filter]
      congr 3
      simp only [List.singleton_append, List.cons.injEq, true_and]
      congr 1
      apply List.filter_congr
      intro b _
      rw [Bool.eq_iff_iff]
      simp [not_or, and_comm]
theorem keysOf_eraseDups (l : List α) : keysOf [] l = l.eraseDups := by
  rw [keysOf_filter]
  have : (l.filter fun b => !([] : List α).contains b) = l := List.filter_eq_self.mpr (by simp)
  rw [this, List.nil_append]
end num
end Dr

namespace Dr
open Vapcma

/-! ## Normal formulas -/
theorem rename_congr {p q : Nat → Nat} : ∀ {f : Form}, (∀ v ∈ vars f, p v = q v) → rename p f = rename q f
  | .var v, h => by simp [rename, h v (by simp [vars])]
  | .imp a b, h => by
    simp only [rename]
    rw [rename_congr (f := a) fun v hv => h v (by simp [vars, hv]), rename_congr (f := b) fun v hv => h v (by simp [vars, hv])]
  | .neg a, h => by
    simp only [rename]
    rw [rename_congr (f := a) fun v hv => h v (by simp [vars, hv])]
theorem vars_rename (p : Nat → Nat) : ∀ f : Form, vars (rename p f) = (vars f).map p
  | .var v => rfl
  | .imp a b => by simp [rename, vars, vars_rename p a, vars_rename p b]
  | .neg a => by simp [rename, vars, vars_rename p a]
theorem size_rename (p : Nat → Nat) : ∀ f : Form, size (rename p f) = size f
  | .var v => rfl
  | .imp a b => by simp [rename, size, size_rename p a, size_rename p b]
  | .neg a => by simp [rename, size, size_rename p a]
theorem rename_rename (p q : Nat → Nat) : ∀ f : Form, rename p (rename q f) = rename (p ∘ q) f
  | .var v => rfl
  | .imp a b => by simp [rename, rename_rename p q a, rename_rename p q b]
  | .neg a => by simp [rename, rename_rename p q a]
theorem rename_id : ∀ f : Form, rename (fun v => v) f = f
  | .var v => rfl
  | .imp a b => by simp [rename, rename_id a, rename_id b]
  | .neg a => by simp [rename, rename_id a]
theorem normal_eq (f : Form) : normal f = rename (idx (keysOf [] (vars f))) f := by
  rw [keysOf_eraseDups]
  rfl
theorem size_normal (f : Form) : size (normal f) = size f := size_rename _ f
theorem addKey_map {α β : Type} [BEq α] [LawfulBEq α] [BEq β] [LawfulBEq β] {p : α → β} {ks : List α} {a : α} (h : ∀ b ∈ ks, p b = p a → b = a) : addKey (ks.map p) (p a) = (addKey ks a).map p := by
  unfold addKey
  by_cases hc : a ∈ ks
  · rw [if_pos (List.contains_iff_mem.mpr (List.mem_map.mpr ⟨a, hc, rfl⟩)), if_pos (List.contains_iff_mem.mpr hc)]
  · rw [if_neg (fun k => hc (List.contains_iff_mem.mp k)), if_neg]
    · simp
    · intro k
      obtain ⟨b, hb, e⟩ := List.mem_map.mp (List.contains_iff_mem.mp k)
      exact hc (h b hb e ▸ hb)
theorem keysOf_map {α β : Type} [BEq α] [LawfulBEq α] [BEq β] [LawfulBEq β] {p : α → β} : ∀ {l ks : List α}, (∀ a b, a ∈ ks ∨ a ∈ l → b ∈ ks ∨ b ∈ l → p a = p b → a = b) → keysOf (ks.map p) (l.map p) = (keysOf ks l).map p
  | [], ks, _ => rfl
  | a :: l, ks, h => by
    rw [List.map_cons, keysOf_cons, keysOf_cons, addKey_map fun b hb e => h b a (.inl hb) (.inr (by simp)) e]
    refine keysOf_map fun x y hx hy e => h x y ?_ ?_ e
    · rcases hx with hx | hx
      · rcases mem_addKey.mp hx with hx | rfl
        · exact .inl hx
        · exact .inr (by simp)
      · exact .inr (by simp [hx])
    · rcases hy with hy | hy
      · rcases mem_addKey.mp hy with hy | rfl
        · exact .inl hy
        · exact .inr (by simp)
      · exact .inr (by simp [hy])
theorem idx_map {α β : Type} [BEq α] [LawfulBEq α] [BEq β] [LawfulBEq β] {p : α → β} {ks : List α} {a : α} (h : ∀ b ∈ ks, p b = p a → b = a) : idx (ks.map p) (p a) = idx ks a := by
  unfold idx
  rw [List.findIdx_map]
  have e : ∀ l : List α, (∀ b ∈ l, p b = p a → b = a) → List.findIdx ((fun x => x == p a) ∘ p) l = List.findIdx (fun x => x == a) l := by
    intro l
    induction l with
    | nil => intro _; rfl
    | cons x r ih =>
      intro h
      rw [List.findIdx_cons, List.findIdx_cons, ih fun b hb => h b (by simp [hb])]
      have : ((fun x => x == p a) ∘ p) x = (x == a) := by
        rw [Bool.eq_iff_iff]
        simp only [Function.comp, beq_iff_eq]
        exact ⟨h x (by simp), fun e => by rw [e]⟩
      rw [this]
  exact e ks h
/-- a renaming that keeps unlike ones unlike leaves the normal form -/
theorem normal_rename {p : Nat → Nat} {f : Form} (h : ∀ a ∈ vars f, ∀ b ∈ vars f, p a = p b → a = b) : normal (rename p f) = normal f := by
  rw [normal_eq, normal_eq, rename_rename, vars_rename]
  refine rename_congr fun v hv => ?_
  have k := keysOf_map (p := p) (l := vars f) (ks := []) fun a b ha hb e => h a (by simpa using ha) b (by simpa using hb) e
  rw [List.map_nil] at k
  show idx (keysOf [] ((vars f).map p)) (p v) = _
  rw [k, idx_map]
  intro b hb e
  exact h b (by simpa using mem_keysOf.mp hb) v hv e

/-! ## Formulas put for unknowns -/
def sb (s : Nat → Form) : Form → Form
  | .var v => s v
  | .imp a b => .imp (sb s a) (sb s b)
  | .neg a => .neg (sb s a)
theorem sb_congr {s t : Nat → Form} : ∀ {f : Form}, (∀ v ∈ vars f, s v = t v) → sb s f = sb t f
  | .var v, h => h v (by simp [vars])
  | .imp a b, h => by
    simp only [sb]
    rw [sb_congr (f := a) fun v hv => h v (by simp [vars, hv]), sb_congr (f := b) fun v hv => h v (by simp [vars, hv])]
  | .neg a, h => by
    simp only [sb]
    rw [sb_congr (f := a) fun v hv => h v (by simp [vars, hv])]
theorem sb_sb (s t : Nat → Form) : ∀ f : Form, sb s (sb t f) = sb (fun v => sb s (t v)) f
  | .var v => rfl
  | .imp a b => by simp [sb, sb_sb s t a, sb_sb s t b]
  | .neg a => by simp [sb, sb_sb s t a]
theorem sb_var : ∀ f : Form, sb .var f = f
  | .var v => rfl
  | .imp a b => by simp [sb, sb_var a, sb_var b]
  | .neg a => by simp [sb, sb_var a]
theorem sb_rename (s : Nat → Form) (p : Nat → Nat) : ∀ f : Form, sb s (rename p f) = sb (fun v => s (p v)) f
  | .var v => rfl
  | .imp a b => by simp [sb, rename, sb_rename s p a, sb_rename s p b]
  | .neg a => by simp [sb, rename, sb_rename s p a]
theorem size_sb (s : Nat → Form) : ∀ f : Form, size f ≤ size (sb s f)
  | .var v => by
    have := size_pos (s v)
    simp only [sb, size]
    omega
  | .imp a b => by
    have := size_sb s a
    have := size_sb s b
    simp only [sb, size]
    omega
  | .neg a => by
    have := size_sb s a
    simp only [sb, size]
    omega
/-- where what is put makes a formula no longer, it is unknowns that are put -/
theorem sb_same_size {s : Nat → Form} : ∀ {f : Form}, size (sb s f) = size f → ∀ v ∈ vars f, ∃ w, s v = .var w
  | .var v, h, x, hx => by
    simp only [vars, List.mem_singleton] at hx
    subst hx
    simp only [sb, size] at h
    match e : s x with
    | .var w => exact ⟨w, rfl⟩
    | .imp a b => rw [e] at h; simp only [size] at h; have := size_pos a; have := size_pos b; omega
    | .neg a => rw [e] at h; simp only [size] at h; have := size_pos a; omega
  | .imp a b, h, x, hx => by
    have h1 := size_sb s a
    have h2 := size_sb s b
    simp only [sb, size] at h
    simp only [vars, List.mem_append] at hx
    rcases hx with hx | hx
    · exact sb_same_size (f := a) (by omega) x hx
    · exact sb_same_size (f := b) (by omega) x hx
  | .neg a, h, x, hx => by
    simp only [sb, size] at h
    exact sb_same_size (f := a) (by omega) x (by simpa [vars] using hx)
def nameOf : Form → Nat
  | .var w => w
  | _ => 0
theorem sb_as_rename {s : Nat → Form} {f : Form} (h : ∀ v ∈ vars f, ∃ w, s v = .var w) : sb s f = rename (fun v => nameOf (s v)) f := by
  have : sb s f = sb (fun v => .var (nameOf (s v))) f := sb_congr fun v hv => by
    obtain ⟨w, e⟩ := h v hv
    simp [e, nameOf]
  rw [this]
  clear this h
  induction f with
  | var v => rfl
  | imp a b ha hb => simp [sb, rename, ha, hb]
  | neg a ha => simp [sb, rename, ha]
theorem rename_fix {p : Nat → Nat} : ∀ {f : Form}, rename p f = f → ∀ v ∈ vars f, p v = v
  | .var v, h, x, hx => by
    simp only [vars, List.mem_singleton] at hx
    subst hx
    simpa [rename] using h
  | .imp a b, h, x, hx => by
    simp only [rename, Form.imp.injEq] at h
    simp only [vars, List.mem_append] at hx
    rcases hx with hx | hx
    · exact rename_fix h.1 x hx
    · exact rename_fix h.2 x hx
  | .neg a, h, x, hx => by
    simp only [rename, Form.neg.injEq] at h
    exact rename_fix h x (by simpa [vars] using hx)
/-- formulas that are instances of one another -/
theorem alike_of {f g : Form} {s t : Nat → Form} (h1 : g = sb s f) (h2 : f = sb t g) : size f = size g ∧ normal f = normal g := by
  have a1 : size f ≤ size g := by rw [h1]; exact size_sb s f
  have a2 : size g ≤ size f := by
    conv => rhs; rw [h2]
    exact size_sb t g
  have e : size f = size g := by omega
  refine ⟨e, ?_⟩
  have v1 := sb_same_size (s := s) (f := f) (by rw [← h1, e])
  have v2 := sb_same_size (s := t) (f := g) (by rw [← h2, e])
  have r1 : g = rename (fun v => nameOf (s v)) f := h1.trans (sb_as_rename v1)
  have r2 : f = rename (fun v => nameOf (t v)) g := h2.trans (sb_as_rename v2)
  rw [r1]
  refine (normal_rename ?_).symm
  have r3 : rename ((fun v => nameOf (t v)) ∘ fun v => nameOf (s v)) f = f := by
    rw [← rename_rename, ← r1, ← r2]
  have fx := rename_fix r3
  intro a ha b hb eq
  have x := fx a ha
  have y := fx b hb
  simp only [Function.comp] at x y
  rw [eq, y] at x
  exact x.symm

/-! ## The specification's fitting -/
theorem replace_eq (v : Nat) (t : Form) : ∀ f : Form, replace v t f = sb (fun x => if x = v then t else .var x) f
  | .var x => rfl
  | .imp a b => by simp [replace, sb, replace_eq v t a, replace_eq v t b]
  | .neg a => by simp [replace, sb, replace_eq v t a]
theorem sb_replace {s : Nat → Form} {v : Nat} {t : Form} (h : s v = sb s t) (f : Form) : sb s (replace v t f) = sb s f := by
  rw [replace_eq, sb_sb]
  refine sb_congr fun x _ => ?_
  by_cases e : x = v
  · subst e
    simp [h]
  · simp [e, sb]
theorem vars_replace {v : Nat} {t : Form} : ∀ {f : Form} {x : Nat}, x ∈ vars (replace v t f) → x ∈ vars t ∨ (x ∈ vars f ∧ x ≠ v)
  | .var y, x, h => by
    unfold replace at h
    by_cases e : y = v
    · rw [if_pos e] at h
      exact .inl h
    · rw [if_neg e] at h
      simp only [vars, List.mem_singleton] at h
      exact .inr ⟨by simp [vars, h], by rw [h]; exact e⟩
  | .imp a b, x, h => by
    simp only [replace, vars, List.mem_append] at h
    rcases h with h | h
    · rcases vars_replace h with h | h
      · exact .inl h
      · exact .inr ⟨by simp [vars, h.1], h.2⟩
    · rcases vars_replace h with h | h
      · exact .inl h
      · exact .inr ⟨by simp [vars, h.1], h.2⟩
  | .neg a, x, h => by
    simp only [replace, vars] at h
    rcases vars_replace h with h | h
    · exact .inl h
    · exact .inr ⟨by simp [vars, h.1], h.2⟩
theorem differ_same : ∀ {f g : Form}, differ f g = .same → f = g
  | .var x, .var y, h => by
    simp only [differ] at h
    split at h
    · rename_i e; rw [e]
    · cases h
  | .var x, .imp a b, h => by simp [differ] at h
  | .var x, .neg a, h => by simp [differ] at h
  | .imp a b, .var y, h => by simp [differ] at h
  | .neg a, .var y, h => by simp [differ] at h
  | .imp a b, .imp c d, h => by
    simp only [differ] at h
    cases e : differ a c with
    | same => rw [e] at h; rw [differ_same e, differ_same h]
    | at_ v t => rw [e] at h; cases h
    | clash => rw [e] at h; cases h
  | .neg a, .neg c, h => by
    simp only [differ] at h
    rw [differ_same h]
  | .imp a b, .neg c, h => by simp [differ] at h
  | .neg a, .imp c d, h => by simp [differ] at h
theorem differ_clash : ∀ {f g : Form}, differ f g = .clash → ∀ s, sb s f ≠ sb s g
  | .var x, .var y, h, s, _ => by
    simp only [differ] at h
    split at h <;> cases h
  | .var x, .imp a b, h, s, _ => by simp [differ] at h
  | .var x, .neg a, h, s, _ => by simp [differ] at h
  | .imp a b, .var y, h, s, _ => by simp [differ] at h
  | .neg a, .var y, h, s, _ => by simp [differ] at h
  | .imp a b, .imp c d, h, s, k => by
    simp only [differ] at h
    simp only [sb, Form.imp.injEq] at k
    cases e : differ a c with
    | same => rw [e] at h; exact differ_clash h s k.2
    | at_ v t => rw [e] at h; cases h
    | clash => exact differ_clash e s k.1
  | .neg a, .neg c, h, s, k => by
    simp only [differ] at h
    simp only [sb, Form.neg.injEq] at k
    exact differ_clash h s k
  | .imp a b, .neg c, h, s, k => by simp [sb] at k
  | .neg a, .imp c d, h, s, k => by simp [sb] at k
theorem differ_at : ∀ {f g : Form} {v : Nat} {t : Form}, differ f g = .at_ v t → (∀ s, sb s f = sb s g → s v = sb s t) ∧ v ∈ vars f ++ vars g ∧ (∀ x ∈ vars t, x ∈ vars f ++ vars g) ∧ t ≠ .var v
  | .var x, .var y, v, t, h => by
    simp only [differ] at h
    split at h
    · cases h
    · rename_i ne
      cases h
      refine ⟨fun s k => k, by simp [vars], by simp [vars], ?_⟩
      intro e
      simp only [Form.var.injEq] at e
      exact ne e.symm
  | .var x, .imp a b, v, t, h => by
    simp only [differ] at h
    cases h
    refine ⟨fun s k => k, by simp [vars], ?_, by simp⟩
    intro y hy
    exact List.mem_append.mpr (.inr hy)
  | .var x, .neg a, v, t, h => by
    simp only [differ] at h
    cases h
    refine ⟨fun s k => k, by simp [vars], ?_, by simp⟩
    intro y hy
    exact List.mem_append.mpr (.inr hy)
  | .imp a b, .var y, v, t, h => by
    simp only [differ] at h
    cases h
    refine ⟨fun s k => k.symm, by simp [vars], ?_, by simp⟩
    intro y hy
    exact List.mem_append.mpr (.inl hy)
  | .neg a, .var y, v, t, h => by
    simp only [differ] at h
    cases h
    refine ⟨fun s k => k.symm, by simp [vars], ?_, by simp⟩
    intro y hy
    exact List.mem_append.mpr (.inl hy)
  | .imp a b, .imp c d, v, t, h => by
    simp only [differ] at h
    cases e : differ a c with
    | same =>
      rw [e] at h
      obtain ⟨h1, h2, h3, h4⟩ := differ_at h
      refine ⟨fun s k => ?_, ?_, ?_, h4⟩
      · simp only [sb, Form.imp.injEq] at k
        exact h1 s k.2
      · simp only [vars, List.mem_append] at h2 ⊢
        rcases h2 with h2 | h2 <;> simp [h2]
      · intro x hx
        have := h3 x hx
        simp only [vars, List.mem_append] at this ⊢
        rcases this with h2 | h2 <;> simp [h2]
    | at_ w u =>
      rw [e] at h
      cases h
      obtain ⟨h1, h2, h3, h4⟩ := differ_at e
      refine ⟨fun s k => ?_, ?_, ?_, h4⟩
      · simp only [sb, Form.imp.injEq] at k
        exact h1 s k.1
      · simp only [vars, List.mem_append] at h2 ⊢
        rcases h2 with h2 | h2 <;> simp [h2]
      · intro x hx
        have := h3 x hx
        simp only [vars, List.mem_append] at this ⊢
        rcases this with h2 | h2 <;> simp [h2]
    | clash => rw [e] at h; cases h
  | .neg a, .neg c, v, t, h => by
    simp only [differ] at h
    obtain ⟨h1, h2, h3, h4⟩ := differ_at h
    refine ⟨fun s k => ?_, ?_, ?_, h4⟩
    · simp only [sb, Form.neg.injEq] at k
      exact h1 s k
    · simpa [vars] using h2
    · simpa [vars] using h3
  | .imp a b, .neg c, v, t, h => by simp [differ] at h
  | .neg a, .imp c d, v, t, h => by simp [differ] at h
theorem size_var_in {s : Nat → Form} {v : Nat} : ∀ {t : Form}, v ∈ vars t → size (s v) ≤ size (sb s t)
  | .var x, h => by
    simp only [vars, List.mem_singleton] at h
    subst h
    exact Nat.le_refl _
  | .imp a b, h => by
    simp only [vars, List.mem_append] at h
    simp only [sb, size]
    rcases h with h | h
    · have := size_var_in (s := s) h; omega
    · have := size_var_in (s := s) h; omega
  | .neg a, h => by
    simp only [vars] at h
    simp only [sb, size]
    have := size_var_in (s := s) h
    omega
/-- an unknown within what is put for it: no way -/
theorem no_within {s : Nat → Form} {v : Nat} {t : Form} (h : v ∈ vars t) (n : t ≠ .var v) : s v ≠ sb s t := by
  intro e
  match t, h, n, e with
  | .var x, h, n, e =>
    simp only [vars, List.mem_singleton] at h
    exact n (by rw [h])
  | .imp a b, h, n, e =>
    have := congrArg size e
    simp only [sb, size] at this
    simp only [vars, List.mem_append] at h
    rcases h with h | h
    · have := size_var_in (s := s) h; omega
    · have := size_var_in (s := s) h; omega
  | .neg a, h, n, e =>
    have := congrArg size e
    simp only [sb, size] at this
    have := size_var_in (s := s) (t := a) (by simpa [vars] using h)
    omega
theorem fitBy_so : ∀ (n : Nat) (f g h r : Form), fitBy n f g h = .so r → size f ≤ 1000 → ∃ s : Nat → Form, sb s f = sb s g ∧ r = sb s h ∧ size (sb s f) ≤ 1000 ∧ ∀ q : Nat → Form, sb q f = sb q g → ∀ v, sb q (s v) = q v
  | 0, f, g, h, r, e, _ => by simp [fitBy] at e
  | n + 1, f, g, h, r, e, hs => by
    unfold fitBy at e
    split at e
    · rename_i d
      cases e
      refine ⟨.var, by rw [sb_var, sb_var]; exact differ_same d, (sb_var h).symm, by rw [sb_var]; exact hs, fun q _ v => rfl⟩
    · cases e
    · rename_i v t d
      split at e
      · cases e
      · simp only at e
        split at e
        · cases e
        · rename_i nl
          obtain ⟨s, h1, h2, h3, h4⟩ := fitBy_so n _ _ _ r e (Nat.le_of_not_lt nl)
          refine ⟨fun x => sb s (if x = v then t else .var x), ?_, ?_, ?_, ?_⟩
          · rw [← sb_sb, ← sb_sb, ← replace_eq, ← replace_eq]; exact h1
          · rw [← sb_sb, ← replace_eq]; exact h2
          · rw [← sb_sb, ← replace_eq]; exact h3
          · intro q hq x
            have hv := (differ_at d).1 q hq
            have hq' : sb q (replace v t f) = sb q (replace v t g) := by rw [sb_replace hv, sb_replace hv]; exact hq
            rw [sb_sb]
            rw [sb_congr (t := q) fun y _ => h4 q hq' y]
            by_cases c : x = v
            · subst c
              simp [hv]
            · simp [c, sb]
/-- with a way to make them the same that is small enough it is found -/
theorem fitBy_some : ∀ (n : Nat) (f g h : Form) (L : List Nat) (q : Nat → Form), L.length < n → (∀ x ∈ vars f ++ vars g, x ∈ L) → sb q f = sb q g → size (sb q f) ≤ 1000 → ∃ r, fitBy n f g h = .so r
  | 0, f, g, h, L, q, hl, _, _, _ => by omega
  | n + 1, f, g, h, L, q, hl, hv, hq, hz => by
    unfold fitBy
    split
    · exact ⟨h, rfl⟩
    · rename_i d
      exact absurd hq (differ_clash d q)
    · rename_i v t d
      obtain ⟨d1, d2, d3, d4⟩ := differ_at d
      have e := d1 q hq
      split
      · rename_i c
        exact absurd e (no_within (List.contains_iff_mem.mp c) d4)
      · rename_i nc
        have nc' : v ∉ vars t := fun c => nc (List.contains_iff_mem.mpr c)
        simp only
        split
        · rename_i big
          have := size_sb q (replace v t f)
          rw [sb_replace e] at this
          have big' : 1000 < size (replace v t f) := big
          omega
        · refine fitBy_some n _ _ _ (L.erase v) q ?_ ?_ ?_ ?_
          · have := List.length_erase_of_mem (hv v d2)
            have := List.length_pos_of_mem (hv v d2)
            omega
          · intro x hx
            have key : x ∈ L ∧ x ≠ v := by
              rcases List.mem_append.mp hx with hx | hx
              · rcases vars_replace hx with hx | hx
                · exact ⟨hv x (d3 x hx), fun c => nc' (c ▸ hx)⟩
                · exact ⟨hv x (List.mem_append.mpr (.inl hx.1)), hx.2⟩
              · rcases vars_replace hx with hx | hx
                · exact ⟨hv x (d3 x hx), fun c => nc' (c ▸ hx)⟩
                · exact ⟨hv x (List.mem_append.mpr (.inr hx.1)), hx.2⟩
            exact (List.mem_erase_of_ne key.2).mpr key.1
          · rw [sb_replace e, sb_replace e]; exact hq
          · rw [sb_replace e]; exact hz
/-- what fit says, in both ways -/
theorem fit_some {f g h r : Form} (hs : size f ≤ 1000) (e : fit f g h = some r) : ∃ s : Nat → Form, sb s f = sb s g ∧ r = sb s h ∧ size (sb s f) ≤ 1000 ∧ ∀ q : Nat → Form, sb q f = sb q g → ∀ v, sb q (s v) = q v := by
  unfold fit at e
  split at e
  · rename_i x k
    cases e
    exact fitBy_so _ _ _ _ _ k hs
  · cases e
theorem fit_of {f g : Form} (h : Form) {q : Nat → Form} (hq : sb q f = sb q g) (hz : size (sb q f) ≤ 1000) : ∃ r, fit f g h = some r := by
  obtain ⟨r, e⟩ := fitBy_some (((vars f) ++ vars g).eraseDups.length + 1) f g h ((vars f) ++ vars g).eraseDups q (by omega) (fun x hx => by rw [← keysOf_eraseDups]; exact mem_keysOf.mpr (.inr hx)) hq hz
  exact ⟨r, by unfold fit; rw [e]⟩
end Dr

namespace Dr
open Vapcma

/-! ## The net: nodes with heads and parts, and what stands for each -/
structure Net where
  hs : List Nat
  ps : List (List Nat)
namespace Net
def isU (N : Net) (n : Nat) : Prop := N.hs[n]? = some 2 ∧ N.ps[n]? = some []
def isN (N : Net) (n p : Nat) : Prop := N.hs[n]? = some 1 ∧ N.ps[n]? = some [p]
def isI (N : Net) (n p q : Nat) : Prop := N.hs[n]? = some 0 ∧ N.ps[n]? = some [p, q]
structure Wf (N : Net) : Prop where
  len : N.hs.length = N.ps.length
  kinds : ∀ n, n < N.hs.length → N.isU n ∨ (∃ p, p < n ∧ N.isN n p) ∨ (∃ p q, p < n ∧ q < n ∧ N.isI n p q)
def add (N : Net) (h : Nat) (p : List Nat) : Net := ⟨N.hs ++ [h], N.ps ++ [p]⟩
def Ext (N M : Net) : Prop := (∃ r, M.hs = N.hs ++ r) ∧ (∃ r, M.ps = N.ps ++ r)
end Net
theorem get_app {α : Type} {l r : List α} {n : Nat} {a : α} (h : l[n]? = some a) : (l ++ r)[n]? = some a := by
  have hl : n < l.length := by
    rcases Nat.lt_or_ge n l.length with h1 | h1
    · exact h1
    · rw [List.getElem?_eq_none h1] at h; cases h
  rw [List.getElem?_append_left hl]
  exact h
theorem get_lt {α : Type} {l : List α} {n : Nat} {a : α} (h : l[n]? = some a) : n < l.length := by
  rcases Nat.lt_or_ge n l.length with h1 | h1
  · exact h1
  · rw [List.getElem?_eq_none h1] at h; cases h
theorem get_some {α : Type} {l : List α} {n : Nat} (h : n < l.length) : ∃ a, l[n]? = some a := ⟨l[n], List.getElem?_eq_getElem h⟩
namespace Net
theorem Ext.refl (N : Net) : N.Ext N := ⟨⟨[], by simp⟩, ⟨[], by simp⟩⟩
theorem Ext.trans {A B C : Net} (h : A.Ext B) (k : B.Ext C) : A.Ext C := by
  obtain ⟨⟨r, e⟩, ⟨s, f⟩⟩ := h
  obtain ⟨⟨r', e'⟩, ⟨s', f'⟩⟩ := k
  exact ⟨⟨r ++ r', by rw [e', e, List.append_assoc]⟩, ⟨s ++ s', by rw [f', f, List.append_assoc]⟩⟩
theorem ext_add (N : Net) (h : Nat) (p : List Nat) : N.Ext (N.add h p) := ⟨⟨[h], rfl⟩, ⟨[p], rfl⟩⟩
theorem Ext.u {N M : Net} (h : N.Ext M) {n : Nat} (k : N.isU n) : M.isU n := by
  obtain ⟨⟨r, e⟩, ⟨s, f⟩⟩ := h
  exact ⟨by rw [e]; exact get_app k.1, by rw [f]; exact get_app k.2⟩
theorem Ext.n {N M : Net} (h : N.Ext M) {n p : Nat} (k : N.isN n p) : M.isN n p := by
  obtain ⟨⟨r, e⟩, ⟨s, f⟩⟩ := h
  exact ⟨by rw [e]; exact get_app k.1, by rw [f]; exact get_app k.2⟩
theorem Ext.i {N M : Net} (h : N.Ext M) {n p q : Nat} (k : N.isI n p q) : M.isI n p q := by
  obtain ⟨⟨r, e⟩, ⟨s, f⟩⟩ := h
  exact ⟨by rw [e]; exact get_app k.1, by rw [f]; exact get_app k.2⟩
theorem Ext.le {N M : Net} (h : N.Ext M) : N.hs.length ≤ M.hs.length := by
  obtain ⟨⟨r, e⟩, _⟩ := h
  rw [e, List.length_append]
  omega
theorem isU.not_n {N : Net} {n p : Nat} (h : N.isU n) : ¬ N.isN n p := fun k => by
  have := h.1.symm.trans k.1
  simp at this
theorem isU.not_i {N : Net} {n p q : Nat} (h : N.isU n) : ¬ N.isI n p q := fun k => by
  have := h.1.symm.trans k.1
  simp at this
theorem isN.not_i {N : Net} {n p a b : Nat} (h : N.isN n p) : ¬ N.isI n a b := fun k => by
  have := h.1.symm.trans k.1
  simp at this
theorem isN.inj {N : Net} {n p q : Nat} (h : N.isN n p) (k : N.isN n q) : p = q := by
  have := h.2.symm.trans k.2
  simpa using this
theorem isI.inj {N : Net} {n p q a b : Nat} (h : N.isI n p q) (k : N.isI n a b) : p = a ∧ q = b := by
  have := h.2.symm.trans k.2
  simpa using this
theorem isU.lt {N : Net} {n : Nat} (h : N.isU n) : n < N.hs.length := get_lt h.1
theorem isN.lt {N : Net} {n p : Nat} (h : N.isN n p) : n < N.hs.length := get_lt h.1
theorem isI.lt {N : Net} {n p q : Nat} (h : N.isI n p q) : n < N.hs.length := get_lt h.1
theorem Wf.n_lt {N : Net} (W : N.Wf) {n p : Nat} (h : N.isN n p) : p < n := by
  rcases W.kinds n h.lt with k | ⟨p', l, k⟩ | ⟨a, b, _, _, k⟩
  · exact absurd h k.not_n
  · rw [h.inj k]; exact l
  · exact absurd k h.not_i
theorem Wf.i_lt {N : Net} (W : N.Wf) {n p q : Nat} (h : N.isI n p q) : p < n ∧ q < n := by
  rcases W.kinds n h.lt with k | ⟨p', l, k⟩ | ⟨a, b, la, lb, k⟩
  · exact absurd h k.not_i
  · exact absurd h k.not_i
  · obtain ⟨e1, e2⟩ := h.inj k
    rw [e1, e2]; exact ⟨la, lb⟩
theorem add_u {N : Net} (W : N.Wf) : (N.add 2 []).isU N.hs.length := ⟨by simp [add], by simp [add, W.len]⟩
theorem add_n {N : Net} (W : N.Wf) (p : Nat) : (N.add 1 [p]).isN N.hs.length p := ⟨by simp [add], by simp [add, W.len]⟩
theorem add_i {N : Net} (W : N.Wf) (p q : Nat) : (N.add 0 [p, q]).isI N.hs.length p q := ⟨by simp [add], by simp [add, W.len]⟩
theorem add_wf {N : Net} (W : N.Wf) {h : Nat} {p : List Nat} (k : let M := N.add h p; M.isU N.hs.length ∨ (∃ p, p < N.hs.length ∧ M.isN N.hs.length p) ∨ (∃ p q, p < N.hs.length ∧ q < N.hs.length ∧ M.isI N.hs.length p q)) : (N.add h p).Wf := by
  refine ⟨by simp [add, W.len], fun n hn => ?_⟩
  have hn' : n < N.hs.length + 1 := by simpa [add] using hn
  by_cases e : n = N.hs.length
  · rw [e]; exact k
  · have E := N.ext_add h p
    rcases W.kinds n (by omega) with k | ⟨a, la, k⟩ | ⟨a, b, la, lb, k⟩
    · exact .inl (E.u k)
    · exact .inr (.inl ⟨a, la, E.n k⟩)
    · exact .inr (.inr ⟨a, b, la, lb, E.i k⟩)
end Net

/-- a formula for each node, as the parts tell -/
structure Cons (N : Net) (val : Nat → Form) : Prop where
  n : ∀ n p, N.isN n p → val n = .neg (val p)
  i : ∀ n p q, N.isI n p q → val n = .imp (val p) (val q)
def vf (N : Net) (s : Nat → Form) : Nat → Nat → Form
  | 0, n => s n
  | k + 1, n => match N.hs[n]?, N.ps[n]? with
    | some 1, some [p] => .neg (vf N s k p)
    | some 0, some [p, q] => .imp (vf N s k p) (vf N s k q)
    | _, _ => s n
theorem vf_u {N : Net} {s : Nat → Form} {n : Nat} (h : N.isU n) : ∀ k, vf N s k n = s n
  | 0 => rfl
  | k + 1 => by
    unfold vf
    rw [h.1, h.2]
    rfl
theorem vf_n {N : Net} {s : Nat → Form} {n p : Nat} (h : N.isN n p) (k : Nat) : vf N s (k + 1) n = .neg (vf N s k p) := by
  conv => lhs; unfold vf
  rw [h.1, h.2]
  rfl
theorem vf_i {N : Net} {s : Nat → Form} {n p q : Nat} (h : N.isI n p q) (k : Nat) : vf N s (k + 1) n = .imp (vf N s k p) (vf N s k q) := by
  conv => lhs; unfold vf
  rw [h.1, h.2]
  rfl
theorem vf_stable {N : Net} (W : N.Wf) (s : Nat → Form) : ∀ (n k j : Nat), n < N.hs.length → n < k → n < j → vf N s k n = vf N s j n := by
  intro n
  induction n using Nat.strongRecOn with
  | ind n ih =>
    intro k j hn hk hj
    match k, j, hk, hj with
    | k + 1, j + 1, hk, hj =>
      rcases W.kinds n hn with u | ⟨p, lp, u⟩ | ⟨p, q, lp, lq, u⟩
      · rw [vf_u u, vf_u u]
      · rw [vf_n u, vf_n u, ih p lp k j (by omega) (by omega) (by omega)]
      · rw [vf_i u, vf_i u, ih p lp k j (by omega) (by omega) (by omega), ih q lq k j (by omega) (by omega) (by omega)]
theorem val_exists {N : Net} (W : N.Wf) (s : Nat → Form) : ∃ val, Cons N val ∧ ∀ n, N.isU n → val n = s n := by
  refine ⟨fun n => vf N s (n + 1) n, ⟨fun n p h => ?_, fun n p q h => ?_⟩, fun n h => vf_u h _⟩
  · have := W.n_lt h
    have := h.lt
    show vf N s (n + 1) n = .neg (vf N s (p + 1) p)
    rw [vf_n h, vf_stable W s p n (p + 1) (by omega) (by omega) (by omega)]
  · have := W.i_lt h
    have := h.lt
    show vf N s (n + 1) n = .imp (vf N s (p + 1) p) (vf N s (q + 1) q)
    rw [vf_i h, vf_stable W s p n (p + 1) (by omega) (by omega) (by omega), vf_stable W s q n (q + 1) (by omega) (by omega) (by omega)]

/-- a node bears a formula, its unknowns at the nodes that m tells -/
def Rep (N : Net) (m : Nat → Nat) : Nat → Form → Prop
  | n, .var v => n = m v ∧ N.isU n
  | n, .imp a b => ∃ p q, N.isI n p q ∧ Rep N m p a ∧ Rep N m q b
  | n, .neg a => ∃ p, N.isN n p ∧ Rep N m p a
theorem Rep.lt {N : Net} {m : Nat → Nat} : ∀ {f : Form} {n : Nat}, Rep N m n f → n < N.hs.length
  | .var v, n, h => h.2.lt
  | .imp a b, n, ⟨p, q, h, _⟩ => h.lt
  | .neg a, n, ⟨p, h, _⟩ => h.lt
theorem Rep.ext {N M : Net} (E : N.Ext M) {m : Nat → Nat} : ∀ {f : Form} {n : Nat}, Rep N m n f → Rep M m n f
  | .var v, n, h => ⟨h.1, E.u h.2⟩
  | .imp a b, n, ⟨p, q, h, ha, hb⟩ => ⟨p, q, E.i h, ha.ext E, hb.ext E⟩
  | .neg a, n, ⟨p, h, ha⟩ => ⟨p, E.n h, ha.ext E⟩
theorem Rep.congr {N : Net} {m k : Nat → Nat} : ∀ {f : Form} {n : Nat}, Rep N m n f → (∀ v ∈ vars f, m v = k v) → Rep N k n f
  | .var v, n, h, e => ⟨by rw [← e v (by simp [vars])]; exact h.1, h.2⟩
  | .imp a b, n, ⟨p, q, h, ha, hb⟩, e => ⟨p, q, h, ha.congr fun v hv => e v (by simp [vars, hv]), hb.congr fun v hv => e v (by simp [vars, hv])⟩
  | .neg a, n, ⟨p, h, ha⟩, e => ⟨p, h, ha.congr fun v hv => e v (by simp [vars, hv])⟩
theorem Rep.u {N : Net} {m : Nat → Nat} : ∀ {f : Form} {n : Nat}, Rep N m n f → ∀ v ∈ vars f, N.isU (m v)
  | .var v, n, h, w, hw => by
    simp only [vars, List.mem_singleton] at hw
    rw [hw, ← h.1]
    exact h.2
  | .imp a b, n, ⟨p, q, h, ha, hb⟩, w, hw => by
    simp only [vars, List.mem_append] at hw
    rcases hw with hw | hw
    · exact ha.u w hw
    · exact hb.u w hw
  | .neg a, n, ⟨p, h, ha⟩, w, hw => ha.u w (by simpa [vars] using hw)
theorem Rep.val {N : Net} {m : Nat → Nat} {val : Nat → Form} (C : Cons N val) : ∀ {f : Form} {n : Nat}, Rep N m n f → val n = sb (fun v => val (m v)) f
  | .var v, n, h => by simp [sb, h.1]
  | .imp a b, n, ⟨p, q, h, ha, hb⟩ => by rw [C.i n p q h, ha.val C, hb.val C]; rfl
  | .neg a, n, ⟨p, h, ha⟩ => by rw [C.n n p h, ha.val C]; rfl

/-! ## A formula put into the net -/
def mOf (ks : List (Nat × Nat)) (v : Nat) : Nat := (ks.lookup v).getD 0
def RepAll (N : Net) (m : Nat → Nat) : List Form → List Nat → Prop
  | [], [] => True
  | t :: ts, n :: ns => Rep N m n t ∧ RepAll N m ts ns
  | _, _ => False
theorem RepAll.ext {N M : Net} (E : N.Ext M) {m : Nat → Nat} : ∀ {ts : List Form} {ns : List Nat}, RepAll N m ts ns → RepAll M m ts ns
  | [], [], _ => trivial
  | _ :: _, _ :: _, h => ⟨h.1.ext E, RepAll.ext E h.2⟩
theorem RepAll.congr {N : Net} {m k : Nat → Nat} : ∀ {ts : List Form} {ns : List Nat}, RepAll N m ts ns → (∀ t ∈ ts, ∀ v ∈ vars t, m v = k v) → RepAll N k ts ns
  | [], [], _, _ => trivial
  | _ :: _, _ :: _, h, e => ⟨h.1.congr (e _ (by simp)), RepAll.congr h.2 fun t ht => e t (by simp [ht])⟩
theorem RepAll.length {N : Net} {m : Nat → Nat} : ∀ {ts : List Form} {ns : List Nat}, RepAll N m ts ns → ts.length = ns.length
  | [], [], _ => rfl
  | _ :: _, _ :: _, h => by simp [RepAll.length h.2]
structure AddI (N0 N : Net) (ks : List (Nat × Nat)) (ts : List Form) (ns : List Nat) : Prop where
  ext : N0.Ext N
  wf : N.Wf
  reps : RepAll N (mOf ks) ts ns
  cover : ∀ t ∈ ts, ∀ v ∈ vars t, v ∈ ks.map Prod.fst
  kn : (ks.map Prod.fst).Nodup
  vals : ∀ e ∈ ks, N0.hs.length ≤ e.2 ∧ N.isU e.2
  vn : (ks.map Prod.snd).Nodup
theorem lookup_mem : ∀ {ks : List (Nat × Nat)} {v : Nat}, v ∈ ks.map Prod.fst → (v, mOf ks v) ∈ ks
  | [], v, h => by simp at h
  | (a, b) :: ks, v, h => by
    unfold mOf
    by_cases e : v = a
    · subst e
      simp [List.lookup]
    · have e' : (v == a) = false := by simpa using e
      have : v ∈ ks.map Prod.fst := by
        simp only [List.map_cons, List.mem_cons] at h
        rcases h with h | h
        · exact absurd h e
        · exact h
      have ih := lookup_mem this
      unfold mOf at ih
      simp only [List.lookup, e']
      exact List.mem_cons_of_mem _ ih
theorem mOf_app : ∀ {ks : List (Nat × Nat)} {v : Nat} (r : List (Nat × Nat)), v ∈ ks.map Prod.fst → mOf (ks ++ r) v = mOf ks v
  | [], v, r, h => by simp at h
  | (a, b) :: ks, v, r, h => by
    unfold mOf
    by_cases e : v = a
    · subst e
      simp [List.lookup]
    · have e' : (v == a) = false := by simpa using e
      have : v ∈ ks.map Prod.fst := by
        simp only [List.map_cons, List.mem_cons] at h
        rcases h with h | h
        · exact absurd h e
        · exact h
      have ih := mOf_app r this
      unfold mOf at ih
      simp only [List.cons_append, List.lookup, e']
      exact ih
theorem mOf_new : ∀ {ks : List (Nat × Nat)} {v n : Nat}, v ∉ ks.map Prod.fst → mOf (ks ++ [(v, n)]) v = n
  | [], v, n, h => by simp [mOf, List.lookup]
  | (a, b) :: ks, v, n, h => by
    simp only [List.map_cons, List.mem_cons, not_or] at h
    have e' : (v == a) = false := by simpa using h.1
    have ih := mOf_new (n := n) h.2
    unfold mOf at ih ⊢
    simp only [List.cons_append, List.lookup, e']
    exact ih
theorem AddI.start {N0 : Net} (W : N0.Wf) : AddI N0 N0 [] [] [] := ⟨.refl _, W, trivial, by simp, by simp, by simp, by simp⟩
theorem AddI.imp {N0 N : Net} {ks : List (Nat × Nat)} {ts : List Form} {ns : List Nat} {a b : Form} {p q : Nat} (h : AddI N0 N ks (a :: b :: ts) (p :: q :: ns)) : AddI N0 (N.add 0 [p, q]) ks (.imp a b :: ts) (N.hs.length :: ns) := by
  have E := N.ext_add 0 [p, q]
  obtain ⟨ha, hb, hr⟩ := h.reps
  refine ⟨h.ext.trans E, ?_, ⟨⟨p, q, Net.add_i h.wf p q, ha.ext E, hb.ext E⟩, hr.ext E⟩, ?_, h.kn, fun e he => ⟨(h.vals e he).1, E.u (h.vals e he).2⟩, h.vn⟩
  · exact Net.add_wf h.wf (.inr (.inr ⟨p, q, ha.lt, hb.lt, Net.add_i h.wf p q⟩))
  · intro t ht v hv
    simp only [List.mem_cons] at ht
    rcases ht with rfl | ht
    · simp only [vars, List.mem_append] at hv
      rcases hv with hv | hv
      · exact h.cover a (by simp) v hv
      · exact h.cover b (by simp) v hv
    · exact h.cover t (by simp [ht]) v hv
theorem AddI.neg {N0 N : Net} {ks : List (Nat × Nat)} {ts : List Form} {ns : List Nat} {a : Form} {p : Nat} (h : AddI N0 N ks (a :: ts) (p :: ns)) : AddI N0 (N.add 1 [p]) ks (.neg a :: ts) (N.hs.length :: ns) := by
  have E := N.ext_add 1 [p]
  obtain ⟨ha, hr⟩ := h.reps
  refine ⟨h.ext.trans E, ?_, ⟨⟨p, Net.add_n h.wf p, ha.ext E⟩, hr.ext E⟩, ?_, h.kn, fun e he => ⟨(h.vals e he).1, E.u (h.vals e he).2⟩, h.vn⟩
  · exact Net.add_wf h.wf (.inr (.inl ⟨p, ha.lt, Net.add_n h.wf p⟩))
  · intro t ht v hv
    simp only [List.mem_cons] at ht
    rcases ht with rfl | ht
    · exact h.cover a (by simp) v (by simpa [vars] using hv)
    · exact h.cover t (by simp [ht]) v hv
theorem AddI.old {N0 N : Net} {ks : List (Nat × Nat)} {ts : List Form} {ns : List Nat} {v : Nat} (h : AddI N0 N ks ts ns) (k : v ∈ ks.map Prod.fst) : AddI N0 N ks (.var v :: ts) (mOf ks v :: ns) := by
  refine ⟨h.ext, h.wf, ⟨⟨rfl, (h.vals _ (lookup_mem k)).2⟩, h.reps⟩, ?_, h.kn, h.vals, h.vn⟩
  intro t ht w hw
  simp only [List.mem_cons] at ht
  rcases ht with rfl | ht
  · simp only [vars, List.mem_singleton] at hw
    rw [hw]; exact k
  · exact h.cover t ht w hw
theorem AddI.new {N0 N : Net} {ks : List (Nat × Nat)} {ts : List Form} {ns : List Nat} {v : Nat} (h : AddI N0 N ks ts ns) (k : v ∉ ks.map Prod.fst) : AddI N0 (N.add 2 []) (ks ++ [(v, N.hs.length)]) (.var v :: ts) (N.hs.length :: ns) := by
  have E := N.ext_add 2 []
  refine ⟨h.ext.trans E, Net.add_wf h.wf (.inl (Net.add_u h.wf)), ⟨⟨(mOf_new k).symm, Net.add_u h.wf⟩, ?_⟩, ?_, ?_, ?_, ?_⟩
  · exact (h.reps.ext E).congr fun t ht w hw => (mOf_app _ (h.cover t ht w hw)).symm
  · intro t ht w hw
    simp only [List.mem_cons] at ht
    simp only [List.map_append, List.mem_append]
    rcases ht with rfl | ht
    · simp only [vars, List.mem_singleton] at hw
      simp [hw]
    · exact .inl (h.cover t ht w hw)
  · rw [List.map_append, List.nodup_append]
    refine ⟨h.kn, by simp, ?_⟩
    intro x hx y hy e
    simp only [List.map_cons, List.map_nil, List.mem_singleton] at hy
    rw [e, hy] at hx
    exact k hx
  · intro e he
    rcases List.mem_append.mp he with he | he
    · exact ⟨(h.vals e he).1, E.u (h.vals e he).2⟩
    · simp only [List.mem_singleton] at he
      subst he
      exact ⟨h.ext.le, Net.add_u h.wf⟩
  · rw [List.map_append, List.nodup_append]
    refine ⟨h.vn, by simp, ?_⟩
    intro x hx y hy e
    simp only [List.map_cons, List.map_nil, List.mem_singleton] at hy
    obtain ⟨z, hz, rfl⟩ := List.mem_map.mp hx
    have := (h.vals z hz).2.lt
    rw [e, hy] at this
    exact absurd this (Nat.lt_irrefl _)
/-- what is told of a formula that was put into the net -/
structure Put (N0 N : Net) (m : Nat → Nat) (n : Nat) (f : Form) : Prop where
  ext : N0.Ext N
  wf : N.Wf
  rep : Rep N m n f
  low : ∀ v ∈ vars f, N0.hs.length ≤ m v
  inj : ∀ v ∈ vars f, ∀ w ∈ vars f, m v = m w → v = w
theorem AddI.put {N0 N : Net} {ks : List (Nat × Nat)} {f : Form} {n : Nat} (h : AddI N0 N ks [f] [n]) : Put N0 N (mOf ks) n f := by
  refine ⟨h.ext, h.wf, h.reps.1, fun v hv => (h.vals _ (lookup_mem (h.cover f (by simp) v hv))).1, fun v hv w hw e => ?_⟩
  have h1 := lookup_mem (h.cover f (by simp) v hv)
  have h2 := lookup_mem (h.cover f (by simp) w hw)
  rw [e] at h1
  obtain ⟨i, hi, e1⟩ := List.mem_iff_getElem.mp h1
  obtain ⟨j, hj, e2⟩ := List.mem_iff_getElem.mp h2
  have q : i = j := by
    have := (List.getElem_inj (i := i) (j := j) (h₀ := by simpa using hi) (h₁ := by simpa using hj) h.vn).mp (by simp [e1, e2])
    exact this
  subst q
  rw [e1] at e2
  exact congrArg Prod.fst e2
end Dr

namespace Dr
open Vapcma

/-! ## What stands for what -/
/-- k steps onward from n the node r stands for itself -/
inductive Lead (st : List Nat) : Nat → Nat → Nat → Prop
  | root {n : Nat} (h : st[n]? = some n) : Lead st 0 n n
  | step {k n m r : Nat} (h : st[n]? = some m) (ne : m ≠ n) (l : Lead st k m r) : Lead st (k + 1) n r
theorem Lead.is {st : List Nat} {k n r : Nat} (h : Lead st k n r) : st[r]? = some r := by
  induction h with
  | root h => exact h
  | step h ne l ih => exact ih
theorem Lead.det {st : List Nat} {k n r : Nat} (h : Lead st k n r) : ∀ {j s : Nat}, Lead st j n s → r = s := by
  induction h with
  | root h =>
    intro j s l
    cases l with
    | root h' => rfl
    | step h' ne l => rw [h] at h'; exact absurd (Option.some.inj h').symm ne
  | step h ne l ih =>
    intro j s l'
    cases l' with
    | root h' => rw [h] at h'; exact absurd (Option.some.inj h') ne
    | step h' ne' l' =>
      rw [h] at h'
      cases h'
      exact ih l'
/-- a root is led onward to another one -/
theorem Lead.set {st : List Nat} {a b k n r : Nat} (ha : st[a]? = some a) (hb : st[b]? = some b) (ne : a ≠ b) (h : Lead st k n r) : ∃ j, Lead (st.set a b) j n (if r = a then b else r) := by
  have hb' : (st.set a b)[b]? = some b := by
    rw [List.getElem?_set_ne ne]; exact hb
  induction h with
  | @root n h =>
    by_cases e : n = a
    · subst e
      rw [if_pos rfl]
      exact ⟨1, .step (m := b) (by rw [List.getElem?_set_self (get_lt h)]) (Ne.symm ne) (.root hb')⟩
    · rw [if_neg e]
      exact ⟨0, .root (by rw [List.getElem?_set_ne (Ne.symm e)]; exact h)⟩
  | @step k n m r h nm l ih =>
    obtain ⟨j, ih⟩ := ih
    have e : n ≠ a := by
      intro e
      subst e
      rw [ha] at h
      exact nm (Option.some.inj h).symm
    exact ⟨j + 1, .step (m := m) (by rw [List.getElem?_set_ne (Ne.symm e)]; exact h) nm ih⟩
/-- how many stand for themselves -/
def roots : Nat → List Nat → Nat
  | _, [] => 0
  | i, x :: l => (if x = i then 1 else 0) + roots (i + 1) l
theorem roots_set : ∀ (l : List Nat) (i j b : Nat), l[j]? = some (i + j) → b ≠ i + j → roots i (l.set j b) + 1 = roots i l
  | [], i, j, b, h, _ => by simp at h
  | x :: l, i, 0, b, h, ne => by
    simp only [List.getElem?_cons_zero, Option.some.injEq] at h
    simp only [List.set_cons_zero, roots]
    rw [if_neg (by simpa using ne), if_pos (by simpa using h)]
    omega
  | x :: l, i, j + 1, b, h, ne => by
    simp only [List.getElem?_cons_succ] at h
    simp only [List.set_cons_succ, roots]
    have := roots_set l (i + 1) j b (by rw [h]; congr 1; omega) (by omega)
    omega

/-- the least relation that holds all sames together -/
inductive Eqv (E : Nat → Nat → Prop) : Nat → Nat → Prop
  | base {x y : Nat} (h : E x y) : Eqv E x y
  | refl (x : Nat) : Eqv E x x
  | symm {x y : Nat} (h : Eqv E x y) : Eqv E y x
  | trans {x y z : Nat} (h : Eqv E x y) (k : Eqv E y z) : Eqv E x z
theorem Eqv.mono {E F : Nat → Nat → Prop} (h : ∀ x y, E x y → Eqv F x y) {x y : Nat} (k : Eqv E x y) : Eqv F x y := by
  induction k with
  | base k => exact h _ _ k
  | refl x => exact .refl x
  | symm _ ih => exact .symm ih
  | trans _ _ ih1 ih2 => exact .trans ih1 ih2
def Ed (st : List Nat) (wt : List (Nat × Nat)) (x y : Nat) : Prop := st[x]? = some y ∨ (x, y) ∈ wt
theorem Lead.eqv {st : List Nat} {wt : List (Nat × Nat)} {k n r : Nat} (h : Lead st k n r) : Eqv (Ed st wt) n r := by
  induction h with
  | root h => exact .refl _
  | step h ne l ih => exact .trans (.base (.inl h)) ih
/-- one step onward: the parts go along -/
def Follows (N : Net) (R : Nat → Nat → Prop) (x y : Nat) : Prop :=
  (∀ p, N.isN x p → ∃ p', N.isN y p' ∧ R p p') ∧ (∀ p q, N.isI x p q → ∃ p' q', N.isI y p' q' ∧ R p p' ∧ R q q')
def Resp (st : List Nat) (val : Nat → Form) : Prop := ∀ x y, st[x]? = some y → val x = val y
theorem Resp.lead {st : List Nat} {val : Nat → Form} (h : Resp st val) {k n r : Nat} (l : Lead st k n r) : val n = val r := by
  induction l with
  | root h => rfl
  | step h' ne l ih => exact (h _ _ h').trans ih
/-- in the midst of making two nodes the same; wt: the pairs that wait -/
structure Mid (N : Net) (one other : Nat) (st : List Nat) (wt : List (Nat × Nat)) : Prop where
  len : st.length = N.hs.length
  leads : ∀ n, n < N.hs.length → ∃ k r, Lead st k n r
  edge : ∀ x y, st[x]? = some y → y ≠ x → Follows N (Eqv (Ed st wt)) x y
  sound : Eqv (Ed st wt) one other
  compl : ∀ val, Cons N val → val one = val other → Resp st val ∧ ∀ e ∈ wt, val e.1 = val e.2
  lt : ∀ e ∈ wt, e.1 < N.hs.length ∧ e.2 < N.hs.length
theorem Mid.root_lt {N : Net} {one other : Nat} {st : List Nat} {wt : List (Nat × Nat)} (M : Mid N one other st wt) {k n r : Nat} (h : Lead st k n r) : r < N.hs.length := by
  rw [← M.len]; exact get_lt h.is
theorem Mid.start {N : Net} {one other : Nat} (h1 : one < N.hs.length) (h2 : other < N.hs.length) : Mid N one other (List.range N.hs.length) [(one, other)] := by
  refine ⟨by simp, fun n h => ⟨0, n, .root (by simp [h])⟩, ?_, .base (.inr (by simp)), ?_, ?_⟩
  · intro x y h ne
    rw [List.getElem?_range (by have := get_lt h; simpa using this)] at h
    exact absurd (Option.some.inj h).symm ne
  · intro val C e
    refine ⟨fun x y h => ?_, ?_⟩
    · rw [List.getElem?_range (by have := get_lt h; simpa using this)] at h
      rw [Option.some.inj h]
    · intro z hz
      simp only [List.mem_singleton] at hz
      rw [hz]; exact e
  · intro z hz
    simp only [List.mem_singleton] at hz
    rw [hz]; exact ⟨h1, h2⟩
/-- the pair is the same already -/
theorem Mid.skip {N : Net} {one other x y a b r : Nat} {st : List Nat} {wt : List (Nat × Nat)} (M : Mid N one other st (wt ++ [(x, y)])) (hx : Lead st a x r) (hy : Lead st b y r) : Mid N one other st wt := by
  have mono : ∀ u v, Ed st (wt ++ [(x, y)]) u v → Eqv (Ed st wt) u v := by
    rintro u v (h | h)
    · exact .base (.inl h)
    · rcases List.mem_append.mp h with h | h
      · exact .base (.inr h)
      · simp only [List.mem_singleton, Prod.mk.injEq] at h
        rw [h.1, h.2]
        exact .trans hx.eqv (.symm hy.eqv)
  refine ⟨M.len, M.leads, ?_, M.sound.mono mono, ?_, fun e he => M.lt e (List.mem_append.mpr (.inl he))⟩
  · intro u v h ne
    obtain ⟨f1, f2⟩ := M.edge u v h ne
    refine ⟨fun p hp => ?_, fun p q hp => ?_⟩
    · obtain ⟨p', h1, h2⟩ := f1 p hp
      exact ⟨p', h1, h2.mono mono⟩
    · obtain ⟨p', q', h1, h2, h3⟩ := f2 p q hp
      exact ⟨p', q', h1, h2.mono mono, h3.mono mono⟩
  · intro val C e
    obtain ⟨c1, c2⟩ := M.compl val C e
    exact ⟨c1, fun e he => c2 e (List.mem_append.mpr (.inl he))⟩
/-- one of two unlike roots, s, is led onward to the other one, t; more pairs wait -/
theorem Mid.link {N : Net} {one other x y a b r1 r2 s t : Nat} {st : List Nat} {wt more : List (Nat × Nat)} (M : Mid N one other st (wt ++ [(x, y)])) (hx : Lead st a x r1) (hy : Lead st b y r2) (ne : r1 ≠ r2)
    (hst : (s = r1 ∧ t = r2) ∨ (s = r2 ∧ t = r1)) (hf : Follows N (fun p q => (p, q) ∈ more) s t)
    (hv : ∀ val, Cons N val → val s = val t → ∀ e ∈ more, val e.1 = val e.2) (hl : ∀ e ∈ more, e.1 < N.hs.length ∧ e.2 < N.hs.length) :
    Mid N one other (st.set s t) (wt ++ more) := by
  have hs : st[s]? = some s := by rcases hst with ⟨rfl, rfl⟩ | ⟨rfl, rfl⟩ <;> first | exact hx.is | exact hy.is
  have ht : st[t]? = some t := by rcases hst with ⟨rfl, rfl⟩ | ⟨rfl, rfl⟩ <;> first | exact hy.is | exact hx.is
  have nst : s ≠ t := by rcases hst with ⟨rfl, rfl⟩ | ⟨rfl, rfl⟩ <;> first | exact ne | exact Ne.symm ne
  have self : (st.set s t)[s]? = some t := List.getElem?_set_self (get_lt hs)
  have edge0 : ∀ u v, st[u]? = some v → Eqv (Ed (st.set s t) (wt ++ more)) u v := by
    intro u v h
    by_cases e : u = s
    · subst e
      rw [hs] at h
      rw [Option.some.inj h]
      exact .refl _
    · exact .base (.inl (by rw [List.getElem?_set_ne (Ne.symm e)]; exact h))
  have lead0 : ∀ {k u v}, Lead st k u v → Eqv (Ed (st.set s t) (wt ++ more)) u v := by
    intro k u v h
    induction h with
    | root h => exact .refl _
    | step h ne l ih => exact .trans (edge0 _ _ h) ih
  have st0 : Eqv (Ed (st.set s t) (wt ++ more)) s t := .base (.inl self)
  have r12 : Eqv (Ed (st.set s t) (wt ++ more)) r1 r2 := by
    rcases hst with ⟨rfl, rfl⟩ | ⟨rfl, rfl⟩
    · exact st0
    · exact .symm st0
  have mono : ∀ u v, Ed st (wt ++ [(x, y)]) u v → Eqv (Ed (st.set s t) (wt ++ more)) u v := by
    rintro u v (h | h)
    · exact edge0 u v h
    · rcases List.mem_append.mp h with h | h
      · exact .base (.inr (List.mem_append.mpr (.inl h)))
      · simp only [List.mem_singleton, Prod.mk.injEq] at h
        rw [h.1, h.2]
        exact .trans (lead0 hx) (.trans r12 (.symm (lead0 hy)))
  refine ⟨by rw [List.length_set]; exact M.len, ?_, ?_, M.sound.mono mono, ?_, ?_⟩
  · intro n hn
    obtain ⟨k, r, h⟩ := M.leads n hn
    obtain ⟨j, h⟩ := h.set hs ht nst
    exact ⟨j, _, h⟩
  · intro u v h nuv
    by_cases e : u = s
    · subst e
      rw [self] at h
      cases h
      refine ⟨fun p hp => ?_, fun p q hp => ?_⟩
      · obtain ⟨p', h1, h2⟩ := hf.1 p hp
        exact ⟨p', h1, .base (.inr (List.mem_append.mpr (.inr h2)))⟩
      · obtain ⟨p', q', h1, h2, h3⟩ := hf.2 p q hp
        exact ⟨p', q', h1, .base (.inr (List.mem_append.mpr (.inr h2))), .base (.inr (List.mem_append.mpr (.inr h3)))⟩
    · rw [List.getElem?_set_ne (Ne.symm e)] at h
      obtain ⟨f1, f2⟩ := M.edge u v h nuv
      refine ⟨fun p hp => ?_, fun p q hp => ?_⟩
      · obtain ⟨p', h1, h2⟩ := f1 p hp
        exact ⟨p', h1, h2.mono mono⟩
      · obtain ⟨p', q', h1, h2, h3⟩ := f2 p q hp
        exact ⟨p', q', h1, h2.mono mono, h3.mono mono⟩
  · intro val C e
    obtain ⟨c1, c2⟩ := M.compl val C e
    have exy : val x = val y := c2 (x, y) (List.mem_append.mpr (.inr (by simp)))
    have e12 : val r1 = val r2 := (c1.lead hx).symm.trans (exy.trans (c1.lead hy))
    have est : val s = val t := by rcases hst with ⟨rfl, rfl⟩ | ⟨rfl, rfl⟩ <;> first | exact e12 | exact e12.symm
    refine ⟨fun u v h => ?_, fun z hz => ?_⟩
    · by_cases eu : u = s
      · subst eu
        rw [self] at h
        cases h
        exact est
      · rw [List.getElem?_set_ne (Ne.symm eu)] at h
        exact c1 u v h
    · rcases List.mem_append.mp hz with hz | hz
      · exact c2 z (List.mem_append.mpr (.inl hz))
      · exact hv val C est z hz
  · intro z hz
    rcases List.mem_append.mp hz with hz | hz
    · exact M.lt z (List.mem_append.mpr (.inl hz))
    · exact hl z hz
/-- the pair can't be the same -/
theorem Mid.clash {N : Net} {one other x y a b r1 r2 : Nat} {st : List Nat} {wt : List (Nat × Nat)} (M : Mid N one other st (wt ++ [(x, y)])) (hx : Lead st a x r1) (hy : Lead st b y r2)
    (hn : ∀ val, Cons N val → val r1 ≠ val r2) : ∀ val, Cons N val → val one ≠ val other := by
  intro val C e
  obtain ⟨c1, c2⟩ := M.compl val C e
  have exy : val x = val y := c2 (x, y) (List.mem_append.mpr (.inr (by simp)))
  exact hn val C ((c1.lead hx).symm.trans (exy.trans (c1.lead hy)))

/-! ## Formulas read off the net -/
inductive Reads (N : Net) (st : List Nat) : Nat → Form → Prop
  | u {k n r : Nat} (l : Lead st k n r) (h : N.isU r) : Reads N st n (.var r)
  | n {k n r p : Nat} {t : Form} (l : Lead st k n r) (h : N.isN r p) (hp : Reads N st p t) : Reads N st n (.neg t)
  | i {k n r p q : Nat} {t u : Form} (l : Lead st k n r) (h : N.isI r p q) (hp : Reads N st p t) (hq : Reads N st q u) : Reads N st n (.imp t u)
theorem Reads.det {N : Net} {st : List Nat} {n : Nat} {t : Form} (h : Reads N st n t) : ∀ {u : Form}, Reads N st n u → t = u := by
  induction h with
  | u l h =>
    intro u r
    cases r with
    | u l' h' => rw [l.det l']
    | n l' h' _ => rw [l.det l'] at h; exact absurd h' h.not_n
    | i l' h' _ _ => rw [l.det l'] at h; exact absurd h' h.not_i
  | n l h _ ih =>
    intro u r
    cases r with
    | u l' h' => rw [← l.det l'] at h'; exact absurd h h'.not_n
    | n l' h' r => rw [l.det l'] at h; rw [h.inj h'] at ih; rw [ih r]
    | i l' h' _ _ => rw [l.det l'] at h; exact absurd h' h.not_i
  | i l h _ _ ih1 ih2 =>
    intro u r
    cases r with
    | u l' h' => rw [← l.det l'] at h'; exact absurd h h'.not_i
    | n l' h' r => rw [← l.det l'] at h'; exact absurd h h'.not_i
    | i l' h' r1 r2 =>
      rw [l.det l'] at h
      obtain ⟨e1, e2⟩ := h.inj h'
      subst e1
      subst e2
      rw [ih1 r1, ih2 r2]
/-- all is made the same: nodes that are held together have one root -/
theorem lead_eqv {st : List Nat} {x y : Nat} (h : Eqv (Ed st []) x y) : ∀ r, (∃ k, Lead st k x r) ↔ (∃ k, Lead st k y r) := by
  induction h with
  | @base x y h =>
    intro r
    rcases h with h | h
    · by_cases e : y = x
      · subst e; exact Iff.rfl
      · constructor
        · rintro ⟨k, l⟩
          cases l with
          | root h' => rw [h] at h'; exact absurd (Option.some.inj h') e
          | step h' ne l =>
            rw [h] at h'
            cases h'
            exact ⟨_, l⟩
        · rintro ⟨k, l⟩
          exact ⟨k + 1, .step h e l⟩
    · cases h
  | refl x => intro r; exact Iff.rfl
  | symm _ ih => intro r; exact (ih r).symm
  | trans _ _ ih1 ih2 => intro r; exact (ih1 r).trans (ih2 r)
theorem Reads.eqv {N : Net} {st : List Nat} {x y : Nat} {t : Form} (h : Eqv (Ed st []) x y) (r : Reads N st x t) : Reads N st y t := by
  cases r with
  | u l k =>
    obtain ⟨j, l⟩ := (lead_eqv h _).mp ⟨_, l⟩
    exact .u l k
  | n l k a =>
    obtain ⟨j, l⟩ := (lead_eqv h _).mp ⟨_, l⟩
    exact .n l k a
  | i l k a b =>
    obtain ⟨j, l⟩ := (lead_eqv h _).mp ⟨_, l⟩
    exact .i l k a b
theorem Mid.down {N : Net} {one other : Nat} {st : List Nat} (M : Mid N one other st []) {k n r : Nat} (l : Lead st k n r) : Follows N (Eqv (Ed st [])) n r := by
  induction l with
  | root h => exact ⟨fun p hp => ⟨p, hp, .refl _⟩, fun p q hp => ⟨p, q, hp, .refl _, .refl _⟩⟩
  | step h ne l ih =>
    obtain ⟨f1, f2⟩ := M.edge _ _ h ne
    refine ⟨fun p hp => ?_, fun p q hp => ?_⟩
    · obtain ⟨p', h1, h2⟩ := f1 p hp
      obtain ⟨p2, h3, h4⟩ := ih.1 p' h1
      exact ⟨p2, h3, .trans h2 h4⟩
    · obtain ⟨p', q', h1, h2, h3⟩ := f2 p q hp
      obtain ⟨p2, q2, g1, g2, g3⟩ := ih.2 p' q' h1
      exact ⟨p2, q2, g1, .trans h2 g2, .trans h3 g3⟩
theorem Mid.reads_n {N : Net} {one other : Nat} {st : List Nat} (M : Mid N one other st []) {n p : Nat} {t : Form} (h : N.isN n p) (r : Reads N st n t) : ∃ u, t = .neg u ∧ Reads N st p u := by
  cases r with
  | u l k =>
    obtain ⟨p', h1, _⟩ := (M.down l).1 p h
    exact absurd h1 k.not_n
  | n l k a =>
    obtain ⟨p', h1, h2⟩ := (M.down l).1 p h
    rw [k.inj h1] at a
    exact ⟨_, rfl, a.eqv (.symm h2)⟩
  | i l k a b =>
    obtain ⟨p', h1, _⟩ := (M.down l).1 p h
    exact absurd k h1.not_i
theorem Mid.reads_i {N : Net} {one other : Nat} {st : List Nat} (M : Mid N one other st []) {n p q : Nat} {t : Form} (h : N.isI n p q) (r : Reads N st n t) : ∃ u v, t = .imp u v ∧ Reads N st p u ∧ Reads N st q v := by
  cases r with
  | u l k =>
    obtain ⟨p', q', h1, _⟩ := (M.down l).2 p q h
    exact absurd h1 k.not_i
  | n l k a =>
    obtain ⟨p', q', h1, _⟩ := (M.down l).2 p q h
    exact absurd h1 k.not_i
  | i l k a b =>
    obtain ⟨p', q', h1, h2, h3⟩ := (M.down l).2 p q h
    obtain ⟨e1, e2⟩ := k.inj h1
    rw [e1] at a
    rw [e2] at b
    exact ⟨_, _, rfl, a.eqv (.symm h2), b.eqv (.symm h3)⟩
/-- what is read off the unknowns' nodes -/
noncomputable def rd (N : Net) (st : List Nat) (m : Nat → Nat) (v : Nat) : Form := open Classical in if h : ∃ t, Reads N st (m v) t then h.choose else .var 0
theorem rd_eq {N : Net} {st : List Nat} {m : Nat → Nat} {v : Nat} {t : Form} (h : Reads N st (m v) t) : rd N st m v = t := by
  unfold rd
  rw [dif_pos ⟨t, h⟩]
  exact (Exists.choose_spec (p := fun t => Reads N st (m v) t) ⟨t, h⟩).det h
theorem Mid.reads_rep {N : Net} {one other : Nat} {st : List Nat} (M : Mid N one other st []) {m : Nat → Nat} : ∀ {f : Form} {n : Nat} {t : Form}, Rep N m n f → Reads N st n t → t = sb (rd N st m) f
  | .var v, n, t, h, r => by
    rw [h.1] at r
    exact (rd_eq r).symm
  | .imp a b, n, t, ⟨p, q, h, ha, hb⟩, r => by
    obtain ⟨u, w, e, r1, r2⟩ := M.reads_i h r
    rw [e, M.reads_rep ha r1, M.reads_rep hb r2]
    rfl
  | .neg a, n, t, ⟨p, h, ha⟩, r => by
    obtain ⟨u, e, r1⟩ := M.reads_n h r
    rw [e, M.reads_rep ha r1]
    rfl
theorem Reads.val {N : Net} {st : List Nat} {val : Nat → Form} (C : Cons N val) (R : Resp st val) {n : Nat} {t : Form} (h : Reads N st n t) : val n = sb val t := by
  induction h with
  | u l h => rw [R.lead l]; rfl
  | n l h _ ih => rw [R.lead l, C.n _ _ h, ih]; rfl
  | i l h _ _ ih1 ih2 => rw [R.lead l, C.i _ _ _ h, ih1, ih2]; rfl
end Dr

namespace Dr
open Vapcma

/-! ## The turns of making two nodes the same -/
theorem Follows.ofU {N : Net} {R : Nat → Nat → Prop} {x y : Nat} (h : N.isU x) : Follows N R x y :=
  ⟨fun p hp => absurd hp h.not_n, fun p q hp => absurd hp h.not_i⟩
theorem Mid.link_u2 {N : Net} {one other x y a b r1 r2 : Nat} {st : List Nat} {wt : List (Nat × Nat)} (M : Mid N one other st (wt ++ [(x, y)])) (hx : Lead st a x r1) (hy : Lead st b y r2) (ne : r1 ≠ r2) (h : N.isU r2) : Mid N one other (st.set r2 r1) wt := by
  have := M.link (more := []) hx hy ne (.inr ⟨rfl, rfl⟩) (Follows.ofU h) (by simp) (by simp)
  simpa using this
theorem Mid.link_u1 {N : Net} {one other x y a b r1 r2 : Nat} {st : List Nat} {wt : List (Nat × Nat)} (M : Mid N one other st (wt ++ [(x, y)])) (hx : Lead st a x r1) (hy : Lead st b y r2) (ne : r1 ≠ r2) (h : N.isU r1) : Mid N one other (st.set r1 r2) wt := by
  have := M.link (more := []) hx hy ne (.inl ⟨rfl, rfl⟩) (Follows.ofU h) (by simp) (by simp)
  simpa using this
theorem Mid.link_n {N : Net} (W : N.Wf) {one other x y a b r1 r2 p q : Nat} {st : List Nat} {wt : List (Nat × Nat)} (M : Mid N one other st (wt ++ [(x, y)])) (hx : Lead st a x r1) (hy : Lead st b y r2) (ne : r1 ≠ r2) (h1 : N.isN r1 p) (h2 : N.isN r2 q) : Mid N one other (st.set r1 r2) (wt ++ [(p, q)]) := by
  refine M.link (more := [(p, q)]) hx hy ne (.inl ⟨rfl, rfl⟩) ⟨fun c hc => ⟨q, h2, ?_⟩, fun c d hc => absurd hc h1.not_i⟩ ?_ ?_
  · rw [hc.inj h1]; simp
  · intro val C e
    rw [C.n _ _ h1, C.n _ _ h2] at e
    simpa using e
  · have := W.n_lt h1
    have := h1.lt
    have := W.n_lt h2
    have := h2.lt
    simp
    omega
theorem Mid.link_i {N : Net} (W : N.Wf) {one other x y a b r1 r2 p q u v : Nat} {st : List Nat} {wt : List (Nat × Nat)} (M : Mid N one other st (wt ++ [(x, y)])) (hx : Lead st a x r1) (hy : Lead st b y r2) (ne : r1 ≠ r2) (h1 : N.isI r1 p q) (h2 : N.isI r2 u v) : Mid N one other (st.set r1 r2) (wt ++ [(p, u), (q, v)]) := by
  refine M.link (more := [(p, u), (q, v)]) hx hy ne (.inl ⟨rfl, rfl⟩) ⟨fun c hc => absurd h1 hc.not_i, fun c d hc => ⟨u, v, h2, ?_, ?_⟩⟩ ?_ ?_
  · rw [(hc.inj h1).1]; simp
  · rw [(hc.inj h1).2]; simp
  · intro val C e
    rw [C.i _ _ _ h1, C.i _ _ _ h2] at e
    simpa using e
  · have := W.i_lt h1
    have := h1.lt
    have := W.i_lt h2
    have := h2.lt
    simp
    omega
theorem Mid.clash_ni {N : Net} {one other x y a b r1 r2 p u v : Nat} {st : List Nat} {wt : List (Nat × Nat)} (M : Mid N one other st (wt ++ [(x, y)])) (hx : Lead st a x r1) (hy : Lead st b y r2) (h1 : N.isN r1 p) (h2 : N.isI r2 u v) : ∀ val, Cons N val → val one ≠ val other :=
  M.clash hx hy fun val C e => by
    rw [C.n _ _ h1, C.i _ _ _ h2] at e
    cases e
theorem Mid.clash_in {N : Net} {one other x y a b r1 r2 p u v : Nat} {st : List Nat} {wt : List (Nat × Nat)} (M : Mid N one other st (wt ++ [(x, y)])) (hx : Lead st a x r1) (hy : Lead st b y r2) (h1 : N.isI r1 u v) (h2 : N.isN r2 p) : ∀ val, Cons N val → val one ≠ val other :=
  M.clash hx hy fun val C e => by
    rw [C.i _ _ _ h1, C.n _ _ h2] at e
    cases e

/-! ## A formula read off, sign by sign -/
def ReadsAll (N : Net) (st : List Nat) : List Nat → List Form → Prop
  | [], [] => True
  | n :: ns, t :: ts => Reads N st n t ∧ ReadsAll N st ns ts
  | _, _ => False
/-- o: the signs told so far, an unknown by its node; W: the nodes that wait, the last one next -/
structure Fo (N : Net) (st : List Nat) (n : Nat) (o W : List Nat) : Prop where
  rd : ∀ ts, ReadsAll N st W.reverse ts → ∃ t, Reads N st n t ∧ enc t = o ++ flat ts
  sz : ∀ val, Cons N val → Resp st val → o.length + (W.map fun w => size (val w)).sum ≤ size (val n)
  lt : ∀ w ∈ W, w < N.hs.length
theorem Fo.start {N : Net} {st : List Nat} {n : Nat} (h : n < N.hs.length) : Fo N st n [] [n] := by
  refine ⟨?_, by simp, by simpa using h⟩
  intro ts ht
  match ts, ht with
  | [t], ht => exact ⟨t, ht.1, by simp⟩
theorem Fo.u {N : Net} {st : List Nat} {n w r k : Nat} {o W : List Nat} (F : Fo N st n o (W ++ [w])) (l : Lead st k w r) (h : N.isU r) : Fo N st n (o ++ [r + 2]) W := by
  refine ⟨fun ts ht => ?_, fun val C R => ?_, fun x hx => F.lt x (by simp [hx])⟩
  · obtain ⟨t, h1, h2⟩ := F.rd (.var r :: ts) (by rw [List.reverse_append]; exact ⟨.u l h, ht⟩)
    exact ⟨t, h1, by rw [h2]; simp [enc]⟩
  · have := F.sz val C R
    rw [List.map_append, List.sum_append] at this
    simp only [List.map_cons, List.map_nil, List.sum_cons, List.sum_nil] at this
    have := size_pos (val w)
    simp only [List.length_append, List.length_cons, List.length_nil]
    omega
theorem Fo.n {N : Net} {st : List Nat} {n w r k p : Nat} {o W : List Nat} (Wf : N.Wf) (F : Fo N st n o (W ++ [w])) (l : Lead st k w r) (h : N.isN r p) : Fo N st n (o ++ [1]) (W ++ [p]) := by
  refine ⟨fun ts ht => ?_, fun val C R => ?_, fun x hx => ?_⟩
  · rw [List.reverse_append] at ht
    match ts, ht with
    | a :: ts, ht =>
      obtain ⟨t, h1, h2⟩ := F.rd (.neg a :: ts) (by rw [List.reverse_append]; exact ⟨.n l h ht.1, ht.2⟩)
      exact ⟨t, h1, by rw [h2]; simp [enc]⟩
  · have := F.sz val C R
    rw [List.map_append, List.sum_append] at this ⊢
    simp only [List.map_cons, List.map_nil, List.sum_cons, List.sum_nil] at this ⊢
    have e : size (val w) = size (val p) + 1 := by
      rw [R.lead l, C.n _ _ h]; rfl
    simp only [List.length_append, List.length_cons, List.length_nil]
    omega
  · rcases List.mem_append.mp hx with hx | hx
    · exact F.lt x (by simp [hx])
    · simp only [List.mem_singleton] at hx
      have := Wf.n_lt h
      have := h.lt
      omega
theorem Fo.i {N : Net} {st : List Nat} {n w r k p q : Nat} {o W : List Nat} (Wf : N.Wf) (F : Fo N st n o (W ++ [w])) (l : Lead st k w r) (h : N.isI r p q) : Fo N st n (o ++ [0]) (W ++ [q, p]) := by
  refine ⟨fun ts ht => ?_, fun val C R => ?_, fun x hx => ?_⟩
  · rw [List.reverse_append] at ht
    match ts, ht with
    | a :: b :: ts, ht =>
      obtain ⟨t, h1, h2⟩ := F.rd (.imp a b :: ts) (by rw [List.reverse_append]; exact ⟨.i l h ht.1 ht.2.1, ht.2.2⟩)
      exact ⟨t, h1, by rw [h2]; simp [enc]⟩
  · have := F.sz val C R
    rw [List.map_append, List.sum_append] at this ⊢
    simp only [List.map_cons, List.map_nil, List.sum_cons, List.sum_nil] at this ⊢
    have e : size (val w) = size (val p) + size (val q) + 1 := by
      rw [R.lead l, C.i _ _ _ h]; rfl
    simp only [List.length_append, List.length_cons, List.length_nil]
    omega
  · rcases List.mem_append.mp hx with hx | hx
    · exact F.lt x (by simp [hx])
    · simp only [List.mem_cons, List.not_mem_nil, or_false] at hx
      have := Wf.i_lt h
      have := h.lt
      omega

theorem Fo.end_ {N : Net} {st : List Nat} {n : Nat} {o : List Nat} (F : Fo N st n o []) : ∃ t, Reads N st n t ∧ enc t = o := by
  obtain ⟨t, h1, h2⟩ := F.rd [] trivial
  exact ⟨t, h1, by simpa using h2⟩
theorem Fo.big {N : Net} {st : List Nat} {n : Nat} {o W : List Nat} (F : Fo N st n o W) (h : W ≠ []) : ∀ val, Cons N val → Resp st val → o.length < size (val n) := by
  intro val C R
  have := F.sz val C R
  match W, h with
  | w :: W, _ =>
    simp only [List.map_cons, List.sum_cons] at this
    have := size_pos (val w)
    omega
/-- the unknowns among signs, in order -/
def labs (o : List Nat) : List Nat := o.filterMap fun s => if s < 2 then none else some (s - 2)
def ren (ks : List Nat) (s : Nat) : Nat := if s < 2 then s else idx ks (s - 2) + 2
theorem labs_append (a b : List Nat) : labs (a ++ b) = labs a ++ labs b := List.filterMap_append
theorem labs_enc : ∀ t : Form, labs (enc t) = vars t
  | .var v => by simp [labs, enc, vars]
  | .imp a b => by
    have e : labs [0] = [] := rfl
    rw [enc, ← List.singleton_append, labs_append, labs_append, labs_enc a, labs_enc b, e]
    rfl
  | .neg a => by
    have e : labs [1] = [] := rfl
    rw [enc, ← List.singleton_append, labs_append, labs_enc a, e]
    rfl
theorem map_ren_enc (ks : List Nat) : ∀ t : Form, (enc t).map (ren ks) = enc (rename (idx ks) t)
  | .var v => by
    have : ¬ v + 2 < 2 := by omega
    simp [enc, ren, rename, this]
  | .imp a b => by simp [enc, ren, rename, map_ren_enc ks a, map_ren_enc ks b]
  | .neg a => by simp [enc, ren, rename, map_ren_enc ks a]
theorem ren_normal {t : Form} {o : List Nat} (h : enc t = o) : o.map (ren (keysOf [] (labs o))) = enc (normal t) := by
  rw [← h, labs_enc, map_ren_enc, normal_eq]
theorem mem_labs {o : List Nat} {x : Nat} : x ∈ labs o ↔ x + 2 ∈ o := by
  unfold labs
  rw [List.mem_filterMap]
  constructor
  · rintro ⟨s, hs, e⟩
    split at e
    · cases e
    · rename_i h
      have : x = s - 2 := (Option.some.inj e).symm
      have : x + 2 = s := by omega
      rw [this]; exact hs
  · intro h
    exact ⟨x + 2, h, by simp⟩
theorem ren_new (o : List Nat) (r : Nat) : (o ++ [r + 2]).map (ren (keysOf [] (labs (o ++ [r + 2])))) = o.map (ren (keysOf [] (labs o))) ++ [idx (addKey (keysOf [] (labs o)) r) r + 2] := by
  have e : labs (o ++ [r + 2]) = labs o ++ [r] := by rw [labs_append]; simp [labs]
  rw [e, keysOf_append, List.map_append]
  congr 1
  · refine List.map_congr_left fun s hs => ?_
    unfold ren
    split
    · rfl
    · rename_i h
      have h2 : s - 2 + 2 = s := by omega
      have : s - 2 ∈ keysOf [] (labs o) := mem_keysOf.mpr (.inr (mem_labs.mpr (by rw [h2]; exact hs)))
      rw [keysOf_idx _ this]
theorem ren_old (o : List Nat) {s : Nat} (h : s < 2) : (o ++ [s]).map (ren (keysOf [] (labs (o ++ [s])))) = o.map (ren (keysOf [] (labs o))) ++ [s] := by
  have e : labs (o ++ [s]) = labs o := by rw [labs_append]; simp [labs, h]
  rw [e, List.map_append]
  simp [ren, h]

/-! ## What is detached -/
theorem lt_top (f : Form) : ∀ v ∈ vars f, v < top f := by
  have key : ∀ (l : List Nat) (m : Nat), (m ≤ l.foldl (fun m v => Nat.max m (v + 1)) m) ∧ ∀ v ∈ l, v < l.foldl (fun m v => Nat.max m (v + 1)) m := by
    intro l
    induction l with
    | nil => intro m; simp
    | cons a l ih =>
      intro m
      rw [List.foldl_cons]
      obtain ⟨h1, h2⟩ := ih (Nat.max m (a + 1))
      have e1 : m ≤ Nat.max m (a + 1) := Nat.le_max_left ..
      have e2 : a + 1 ≤ Nat.max m (a + 1) := Nat.le_max_right ..
      refine ⟨by omega, fun v hv => ?_⟩
      simp only [List.mem_cons] at hv
      rcases hv with rfl | hv
      · omega
      · exact h2 v hv
  exact (key (vars f) 0).2
theorem Rep.rename {N : Net} {p : Nat → Nat} {M : Nat → Nat} : ∀ {f : Form} {n : Nat}, Rep N (fun v => M (p v)) n f → Rep N M n (Vapcma.rename p f)
  | .var v, n, h => h
  | .imp a b, n, ⟨x, y, h, ha, hb⟩ => ⟨x, y, h, ha.rename, hb.rename⟩
  | .neg a, n, ⟨x, h, ha⟩ => ⟨x, h, ha.rename⟩
/-- both formulas in the net -/
structure Two (N : Net) (M : Nat → Nat) (pa pb root : Nat) (a b g : Form) : Prop where
  wf : N.Wf
  ra : Rep N M pa a
  rb : Rep N M pb b
  rg : Rep N M root g
  inj : ∀ v ∈ vars a ++ (vars b ++ vars g), ∀ w ∈ vars a ++ (vars b ++ vars g), M v = M w → v = w
theorem two_of {N1 N2 : Net} {m1 m2 : Nat → Nat} {r1 r2 pa pb : Nat} {a b g : Form} (P1 : Put ⟨[], []⟩ N1 m1 r1 (.imp a b)) (P2 : Put N1 N2 m2 r2 g) (hI : N1.isI r1 pa pb) :
    Two N2 (fun v => if v < top (.imp a b) then m1 v else m2 (v - top (.imp a b))) pa pb r2 a b (rename (fun v => v + top (.imp a b)) g) := by
  obtain ⟨p, q, h, ha, hb⟩ := P1.rep
  obtain ⟨e1, e2⟩ := hI.inj h
  subst e1
  subst e2
  have lowA : ∀ v ∈ vars a ++ vars b, v < top (.imp a b) := lt_top (.imp a b)
  refine ⟨P2.wf, ?_, ?_, ?_, ?_⟩
  · exact (ha.ext P2.ext).congr fun v hv => by
      rw [if_pos (lowA v (List.mem_append.mpr (.inl hv)))]
  · exact (hb.ext P2.ext).congr fun v hv => by
      rw [if_pos (lowA v (List.mem_append.mpr (.inr hv)))]
  · refine Rep.rename ?_
    exact P2.rep.congr fun v hv => by
      rw [if_neg (by omega), Nat.add_sub_cancel]
  · have cls : ∀ v ∈ vars a ++ (vars b ++ vars (rename (fun v => v + top (.imp a b)) g)), (v ∈ vars (.imp a b) ∧ v < top (.imp a b)) ∨ ∃ u ∈ vars g, v = u + top (.imp a b) := by
      intro v hv
      rw [vars_rename, ← List.append_assoc] at hv
      rcases List.mem_append.mp hv with hv | hv
      · exact .inl ⟨hv, lowA v hv⟩
      · obtain ⟨u, hu, e⟩ := List.mem_map.mp hv
        exact .inr ⟨u, hu, e.symm⟩
    have small : ∀ v ∈ vars (.imp a b), m1 v < N1.hs.length := fun v hv => (P1.rep.u v hv).lt
    intro v hv w hw e
    rcases cls v hv with ⟨v1, v2⟩ | ⟨u, hu, rfl⟩
    · rcases cls w hw with ⟨w1, w2⟩ | ⟨x, hx, rfl⟩
      · rw [if_pos v2, if_pos w2] at e
        exact P1.inj v v1 w w1 e
      · rw [if_pos v2, if_neg (by omega), Nat.add_sub_cancel] at e
        have := small v v1
        have := P2.low x hx
        omega
    · rcases cls w hw with ⟨w1, w2⟩ | ⟨x, hx, rfl⟩
      · rw [if_pos w2, if_neg (by omega), Nat.add_sub_cancel] at e
        have := small w w1
        have := P2.low u hu
        omega
      · rw [if_neg (by omega), if_neg (by omega), Nat.add_sub_cancel, Nat.add_sub_cancel] at e
        rw [P2.inj u hu x hx e]
theorem Two.val {N : Net} {M : Nat → Nat} {pa pb root : Nat} {a b g : Form} (T : Two N M pa pb root a b g) (s : Nat → Form) : ∃ val, Cons N val ∧ val pa = sb s a ∧ val pb = sb s b ∧ val root = sb s g := by
  obtain ⟨val, C, h⟩ := val_exists T.wf (fun n => open Classical in if k : ∃ v ∈ vars a ++ (vars b ++ vars g), M v = n then s k.choose else .var 0)
  have hu : ∀ v ∈ vars a ++ (vars b ++ vars g), N.isU (M v) := by
    intro v hv
    simp only [List.mem_append] at hv
    rcases hv with hv | hv | hv
    · exact T.ra.u v hv
    · exact T.rb.u v hv
    · exact T.rg.u v hv
  have key : ∀ v ∈ vars a ++ (vars b ++ vars g), val (M v) = s v := by
    intro v hv
    rw [h _ (hu v hv)]
    have k : ∃ w ∈ vars a ++ (vars b ++ vars g), M w = M v := ⟨v, hv, rfl⟩
    rw [dif_pos k]
    have sp := k.choose_spec
    rw [T.inj _ sp.1 v hv sp.2]
  refine ⟨val, C, ?_, ?_, ?_⟩
  · rw [T.ra.val C]; exact sb_congr fun v hv => key v (by simp [hv])
  · rw [T.rb.val C]; exact sb_congr fun v hv => key v (by simp [hv])
  · rw [T.rg.val C]; exact sb_congr fun v hv => key v (by simp [hv])
theorem Two.no {N : Net} {M : Nat → Nat} {pa pb root : Nat} {a b g : Form} (T : Two N M pa pb root a b g) (hs : size a ≤ 1000) (h : ∀ val, Cons N val → val pa ≠ val root) : fit a g b = none := by
  cases e : fit a g b with
  | none => rfl
  | some r =>
    obtain ⟨s, h1, _⟩ := fit_some hs e
    obtain ⟨val, C, e1, e2, e3⟩ := T.val s
    exact absurd (by rw [e1, e3, h1]) (h val C)
theorem Two.large {N : Net} {M : Nat → Nat} {pa pb root : Nat} {a b g : Form} (T : Two N M pa pb root a b g) (hs : size a ≤ 1000) {st : List Nat} (D : Mid N pa root st []) (h : ∀ val, Cons N val → Resp st val → 1000 < size (val pa)) : fit a g b = none := by
  cases e : fit a g b with
  | none => rfl
  | some r =>
    obtain ⟨s, h1, _, h3, _⟩ := fit_some hs e
    obtain ⟨val, C, e1, e2, e3⟩ := T.val s
    have := h val C (D.compl val C (by rw [e1, e3, h1])).1
    rw [e1] at this
    omega
/-- the parts are read off: it is the specification's -/
theorem Two.some {N : Net} {M : Nat → Nat} {pa pb root : Nat} {a b g : Form} (T : Two N M pa pb root a b g) (hs : size a ≤ 1000) {st : List Nat} (D : Mid N pa root st []) {t : Form} (ht : Reads N st pa t) (hz : size t ≤ 1000) :
    ∃ r, fit a g b = .some r ∧ (∃ val, Cons N val ∧ Resp st val ∧ val pb = r) ∧ ∀ u, Reads N st pb u → size r = size u ∧ normal r = normal u := by
  have ea := D.reads_rep T.ra ht
  have eg := D.reads_rep T.rg (ht.eqv D.sound)
  obtain ⟨r, e⟩ := fit_of b (q := rd N st M) (ea.symm.trans eg) (by rw [← ea]; exact hz)
  refine ⟨r, e, ?_⟩
  obtain ⟨s, h1, h2, _, h4⟩ := fit_some hs e
  obtain ⟨val, C, e1, e2, e3⟩ := T.val s
  have R := (D.compl val C (by rw [e1, e3, h1])).1
  refine ⟨⟨val, C, R, by rw [e2, h2]⟩, fun u hu => ?_⟩
  have f1 : r = sb val u := by rw [← hu.val C R, e2, h2]
  have f2 : u = sb (rd N st M) r := by
    rw [D.reads_rep T.rb hu, h2, sb_sb]
    exact (sb_congr fun v _ => (h4 (rd N st M) (ea.symm.trans eg) v)).symm
  exact alike_of f2 f1
theorem detach_imp (a b g : Form) : detach (.imp a b) g = (fit a (rename (fun v => v + top (.imp a b)) g) b).bind fun r => if 60 < size r then none else some (normal r) := rfl
theorem Two.detach_none {N : Net} {M : Nat → Nat} {pa pb root : Nat} {a b g : Form} (T : Two N M pa pb root a b (rename (fun v => v + top (.imp a b)) g)) (hs : size a ≤ 1000) {st : List Nat} (D : Mid N pa root st []) {t : Form} (ht : Reads N st pa t) (hz : size t ≤ 1000) (h : ∀ val, Cons N val → Resp st val → 60 < size (val pb)) : detach (.imp a b) g = none := by
  obtain ⟨r, e, ⟨val, C, R, ev⟩, _⟩ := T.some hs D ht hz
  rw [detach_imp, e, Option.bind_some, if_pos (by rw [← ev]; exact h val C R)]
theorem Two.detach_some {N : Net} {M : Nat → Nat} {pa pb root : Nat} {a b g : Form} (T : Two N M pa pb root a b (rename (fun v => v + top (.imp a b)) g)) (hs : size a ≤ 1000) {st : List Nat} (D : Mid N pa root st []) {t u : Form} (ht : Reads N st pa t) (hz : size t ≤ 1000) (hu : Reads N st pb u) (hy : size u ≤ 60) : detach (.imp a b) g = .some (normal u) := by
  obtain ⟨r, e, _, h⟩ := T.some hs D ht hz
  obtain ⟨h1, h2⟩ := h u hu
  rw [detach_imp, e, Option.bind_some, if_neg (by omega), h2]
end Dr

namespace Dr
open Vapcma VapcmBase

/-! ## Reading a formula: the program's way, token by token -/
structure Dft where
  signs : List Nat
  ks : List Bytes
  /-- what has not ended, the innermost first -/
  ar : List (Nat × Nat)
  br : Nat
  ended : Bool
  beg : Nat
def Dft.init : Dft := ⟨[], [], [], 0, false, 0⟩
def popT : List (Nat × Nat) → Nat → List (Nat × Nat) × Nat
  | [], b => ([], b)
  | (k, x) :: r, b => if k = 126 then popT r x else ((k, x) :: r, b)
def popG : List (Nat × Nat) → List (Nat × Nat)
  | [] => []
  | (k, x) :: r => if k = 62 then popG r else (k, x) :: r
def Dft.endPart (S : Dft) (b : Nat) : Dft := { S with ar := (popT S.ar b).1, beg := (popT S.ar b).2, ended := true }
def isName : Tok → Bool
  | .name b => !RESERVED.contains b
  | _ => false
def Dft.whole (S : Dft) : Bool := S.ended && decide (S.br = 0)
def Dft.takes (S : Dft) (t : Tok) : Bool :=
  if S.ended then tokEq t (.sign 62) || (tokEq t (.sign 41) && decide (0 < S.br)) else tokEq t (.sign 126) || tokEq t (.sign 40) || isName t
def Dft.put (S : Dft) (t : Tok) : Dft := match t with
  | .sign 126 => { S with ar := (126, S.signs.length) :: S.ar, signs := S.signs ++ [1] }
  | .sign 40 => { S with ar := (40, S.signs.length) :: S.ar, br := S.br + 1 }
  | .sign 62 => { S with ar := (62, S.beg) :: S.ar, signs := S.signs.insertIdx S.beg 0, ended := false }
  | .sign 41 => (match popG S.ar with
    | (_, b) :: r => { S with ar := r, br := S.br - 1 }.endPart b
    | [] => S)
  | .name n => { S with signs := S.signs ++ [idx (addKey S.ks n) n + 2], ks := addKey S.ks n }.endPart S.signs.length
  | _ => S
def opens (t : Tok) : Bool := tokEq t (.sign 126) || tokEq t (.sign 40) || tokEq t (.sign 62)
def go (S : Dft) : Toks → Except Fault (List Nat × Toks)
  | [] => wrong []
  | t :: r =>
    if (tokEq t.tok (.sign 59) && S.whole) = true then .ok (S.signs, r)
    else if S.takes t.tok = false then wrong (t :: r)
    else if (opens t.tok && decide (40 ≤ S.ar.length)) = true then .error ⟨10, t.place⟩
    else go (S.put t.tok) r
def goF (l : Toks) : Except Fault (List Nat × Toks) := (go .init l).bind fun x => if 40 < x.1.length then .error ⟨9, here l⟩ else .ok x

/-! ### against the specification -/
theorem tokEq_sign {t : Tok} {c : Nat} (h : tokEq t (.sign c) = true) : t = .sign c := by
  cases t with
  | sign d => simp only [tokEq, beq_iff_eq] at h; rw [h]
  | name b => simp [tokEq] at h
  | num n => simp [tokEq] at h
  | last => simp [tokEq] at h
theorem tokEq_sign' (c : Nat) : tokEq (.sign c) (.sign c) = true := by simp [tokEq]
def rawEnc (ks : List Bytes) (r : Raw) : List Nat := enc (formOf (keysOf ks (rawNames r)) r)
theorem formOf_pre : ∀ {r : Raw} {ks : List Bytes} (x : List Bytes), (∀ n ∈ rawNames r, n ∈ ks) → formOf (ks ++ x) r = formOf ks r
  | .var n, ks, x, h => by
    have := idx_pre x (h n (by simp [rawNames]))
    simp only [formOf, Form.var.injEq]
    exact this
  | .imp a b, ks, x, h => by
    simp only [formOf, Form.imp.injEq]
    exact ⟨formOf_pre x fun n hn => h n (by simp [rawNames, hn]), formOf_pre x fun n hn => h n (by simp [rawNames, hn])⟩
  | .neg a, ks, x, h => by
    simp only [formOf, Form.neg.injEq]
    exact formOf_pre x fun n hn => h n (by simpa [rawNames] using hn)
theorem rawEnc_imp (ks : List Bytes) (a b : Raw) : rawEnc ks (.imp a b) = 0 :: (rawEnc ks a ++ rawEnc (keysOf ks (rawNames a)) b) := by
  unfold rawEnc
  have e : keysOf ks (rawNames (.imp a b)) = keysOf (keysOf ks (rawNames a)) (rawNames b) := by simp [rawNames, keysOf_append]
  rw [e]
  obtain ⟨x, hx⟩ := keysOf_pre (rawNames b) (keysOf ks (rawNames a))
  simp only [formOf, enc]
  rw [show formOf (keysOf (keysOf ks (rawNames a)) (rawNames b)) a = formOf (keysOf ks (rawNames a)) a by
    rw [hx]; exact formOf_pre x fun n hn => mem_keysOf.mpr (.inr hn)]
theorem rawEnc_neg (ks : List Bytes) (a : Raw) : rawEnc ks (.neg a) = 1 :: rawEnc ks a := rfl
/-- behind a part -/
def Dft.aft (S : Dft) (r : Raw) : Dft := { S with signs := S.signs ++ rawEnc S.ks r, ks := keysOf S.ks (rawNames r) }.endPart S.signs.length
theorem takeName_ok {l : Toks} {x : PName × Toks} (h : takeName l = .ok x) : ∃ p b r, l = ⟨p, .name b⟩ :: r ∧ isName (.name b) = true ∧ x = (⟨p, b⟩, r) := by
  unfold takeName at h
  split at h
  · rename_i p b r
    split at h
    · cases h
    · rename_i hc
      cases h
      refine ⟨p, b, r, rfl, ?_, rfl⟩
      simp only [isName]
      simpa using hc
  · cases h
theorem takeName_err {l : Toks} {f : Fault} (h : takeName l = .error f) : f = ⟨3, here l⟩ ∧ ∀ t r, l = t :: r → isName t.tok = false := by
  unfold takeName at h
  split at h
  · rename_i p b r
    split at h
    · rename_i hc
      cases h
      refine ⟨rfl, fun t r' e => ?_⟩
      cases e
      simp only [isName, hc]
      rfl
    · cases h
  · rename_i hne
    cases h
    refine ⟨rfl, fun t r e => ?_⟩
    subst e
    obtain ⟨p, tk⟩ := t
    cases tk with
    | name b => exact absurd rfl (hne p b r)
    | num n => rfl
    | sign c => rfl
    | last => rfl
theorem next_cons (t : PTok) (r : Toks) (k : Tok) : next k (t :: r) = tokEq t.tok k := rfl
theorem next_sign {l : Toks} {c : Nat} (h : next (.sign c) l = true) : ∃ p r, l = ⟨p, .sign c⟩ :: r := by
  cases l with
  | nil => simp [next] at h
  | cons t r =>
    obtain ⟨p, tk⟩ := t
    have := tokEq_sign (t := tk) h
    subst this
    exact ⟨p, r, rfl⟩
def TopOk (a : List (Nat × Nat)) : Prop := ∀ b, popT a b = (a, b)
theorem topOk_of {k x : Nat} {r : List (Nat × Nat)} (h : k ≠ 126) : TopOk ((k, x) :: r) := fun b => by simp [popT, h]
theorem topOk_nil : TopOk [] := fun b => rfl
theorem popG_app : ∀ (g : List (Nat × Nat)) (b : Nat) (r : List (Nat × Nat)), (∀ e ∈ g, e.1 = 62) → popG (g ++ (40, b) :: r) = (40, b) :: r
  | [], b, r, _ => by simp [popG]
  | (k, x) :: g, b, r, h => by
    have : k = 62 := h (k, x) (by simp)
    subst this
    simp only [List.cons_append, popG, if_true]
    exact popG_app g b r fun e he => h e (by simp [he])
theorem insertIdx_mid {α : Type} (a b : List α) (x : α) : (a ++ b).insertIdx a.length x = a ++ x :: b := by
  induction a with
  | nil => rfl
  | cons y a ih => simp [List.insertIdx_succ_cons, ih]
/-- both takings at once: n fuel -/
theorem sim : ∀ n : Nat,
    (∀ (d : Nat) (l : Toks) (S : Dft), 2 * l.length + 2 ≤ n → S.ended = false → S.ar.length = d → TopOk S.ar →
      match takeForm n d l with
      | .error f => go S l = .error f
      | .ok x => ∃ (g : List (Nat × Nat)) (b : Nat), (∀ e ∈ g, e.1 = 62) ∧ go S l = go { signs := S.signs ++ rawEnc S.ks x.1, ks := keysOf S.ks (rawNames x.1), ar := g ++ S.ar, br := S.br, ended := true, beg := b } x.2 ∧ next (.sign 62) x.2 = false ∧ x.2.length < l.length) ∧
    (∀ (d : Nat) (l : Toks) (S : Dft), 2 * l.length + 1 ≤ n → S.ended = false → S.ar.length = d →
      match takePart n d l with
      | .error f => go S l = .error f
      | .ok x => go S l = go (S.aft x.1) x.2 ∧ x.2.length < l.length)
  | 0 => ⟨fun d l S h => by omega, fun d l S h => by omega⟩
  | n + 1 => by
    obtain ⟨ihF, ihP⟩ := sim n
    refine ⟨fun d l S hn he hd ht => ?_, fun d l S hn he hd => ?_⟩
    · unfold takeForm
      have hp := ihP d l S (by omega) he hd
      cases hP : takePart n d l with
      | error f =>
        rw [hP] at hp
        exact hp
      | ok x =>
        rw [hP] at hp
        obtain ⟨hp, hlt⟩ := hp
        have ea : S.aft x.1 = { signs := S.signs ++ rawEnc S.ks x.1, ks := keysOf S.ks (rawNames x.1), ar := S.ar, br := S.br, ended := true, beg := S.signs.length } := by
          unfold Dft.aft Dft.endPart
          simp only
          rw [ht]
        simp only [Except.bind]
        by_cases h62 : next (.sign 62) x.2 = true
        · rw [if_pos h62]
          obtain ⟨p, r, hl⟩ := next_sign h62
          have step : go (S.aft x.1) x.2 = if 40 ≤ d then .error ⟨10, p⟩ else go { signs := S.signs ++ 0 :: rawEnc S.ks x.1, ks := keysOf S.ks (rawNames x.1), ar := (62, S.signs.length) :: S.ar, br := S.br, ended := false, beg := S.signs.length } r := by
            rw [hl, ea]
            conv => lhs; unfold go
            rw [if_neg (by simp [tokEq]), if_neg (by simp [Dft.takes, tokEq])]
            simp only [opens, tokEq, hd]
            by_cases c : 40 ≤ d
            · rw [if_pos (by simp [c]), if_pos c]
            · rw [if_neg (by simp [c]), if_neg c]
              simp only [Dft.put]
              rw [insertIdx_mid]
          by_cases c : 40 ≤ d
          · rw [if_pos (show DEEP ≤ d from c)]
            simp only
            rw [hp, step, if_pos c, hl]
            rfl
          · rw [if_neg (show ¬ DEEP ≤ d from c)]
            rw [if_neg c] at step
            have hr : r.length + 1 = x.2.length := by rw [hl]; rfl
            have hdrop : x.2.drop 1 = r := by rw [hl]; rfl
            rw [hdrop]
            have ih := ihF (d + 1) r { signs := S.signs ++ 0 :: rawEnc S.ks x.1, ks := keysOf S.ks (rawNames x.1), ar := (62, S.signs.length) :: S.ar, br := S.br, ended := false, beg := S.signs.length } (by omega) rfl (by simp [hd]) (topOk_of (by decide))
            cases hF : takeForm n (d + 1) r with
            | error f =>
              rw [hF] at ih
              simp only [Except.map]
              rw [hp, step]
              exact ih
            | ok y =>
              rw [hF] at ih
              obtain ⟨g, b, hg, e1, e2, e3⟩ := ih
              simp only [Except.map]
              refine ⟨g ++ [(62, S.signs.length)], b, ?_, ?_, e2, by omega⟩
              · intro e he
                rcases List.mem_append.mp he with he | he
                · exact hg e he
                · simp only [List.mem_singleton] at he
                  rw [he]
              · rw [hp, step, e1]
                congr 1
                rw [rawEnc_imp]
                simp [rawNames, keysOf_append]
        · rw [if_neg h62]
          refine ⟨[], S.signs.length, by simp, ?_, by simpa using h62, hlt⟩
          rw [hp, ea]
          rfl
    · unfold takePart
      by_cases h126 : next (.sign 126) l = true
      · rw [if_pos h126]
        obtain ⟨p, r, hl⟩ := next_sign h126
        have step : go S l = if 40 ≤ d then .error ⟨10, p⟩ else go { S with ar := (126, S.signs.length) :: S.ar, signs := S.signs ++ [1] } r := by
          rw [hl]
          conv => lhs; unfold go
          rw [if_neg (by simp [tokEq]), if_neg (by simp [Dft.takes, tokEq, he])]
          simp only [opens, tokEq, hd]
          by_cases c : 40 ≤ d
          · rw [if_pos (by simp [c]), if_pos c]
          · rw [if_neg (by simp [c]), if_neg c]
            rfl
        by_cases c : 40 ≤ d
        · rw [if_pos (show DEEP ≤ d from c)]
          simp only
          rw [step, if_pos c, hl]
          rfl
        · rw [if_neg (show ¬ DEEP ≤ d from c)]
          rw [if_neg c] at step
          have hr : r.length + 1 = l.length := by rw [hl]; rfl
          have hdrop : l.drop 1 = r := by rw [hl]; rfl
          rw [hdrop]
          have ih := ihP (d + 1) r { S with ar := (126, S.signs.length) :: S.ar, signs := S.signs ++ [1] } (by omega) he (by simp [hd])
          cases hF : takePart n (d + 1) r with
          | error f =>
            rw [hF] at ih
            simp only [Except.map]
            rw [step]
            exact ih
          | ok y =>
            rw [hF] at ih
            simp only [Except.map]
            refine ⟨?_, by omega⟩
            rw [step, ih.1]
            congr 1
            unfold Dft.aft Dft.endPart
            simp [popT, rawEnc_neg, rawNames]
      · rw [if_neg h126]
        by_cases h40 : next (.sign 40) l = true
        · rw [if_pos h40]
          obtain ⟨p, r, hl⟩ := next_sign h40
          have step : go S l = if 40 ≤ d then .error ⟨10, p⟩ else go { S with ar := (40, S.signs.length) :: S.ar, br := S.br + 1 } r := by
            rw [hl]
            conv => lhs; unfold go
            rw [if_neg (by simp [tokEq]), if_neg (by simp [Dft.takes, tokEq, he])]
            simp only [opens, tokEq, hd]
            by_cases c : 40 ≤ d
            · rw [if_pos (by simp [c]), if_pos c]
            · rw [if_neg (by simp [c]), if_neg c]
              rfl
          by_cases c : 40 ≤ d
          · rw [if_pos (show DEEP ≤ d from c)]
            simp only
            rw [step, if_pos c, hl]
            rfl
          · rw [if_neg (show ¬ DEEP ≤ d from c)]
            rw [if_neg c] at step
            have hr : r.length + 1 = l.length := by rw [hl]; rfl
            have hdrop : l.drop 1 = r := by rw [hl]; rfl
            rw [hdrop]
            have ih := ihF (d + 1) r { S with ar := (40, S.signs.length) :: S.ar, br := S.br + 1 } (by omega) he (by simp [hd]) (topOk_of (by decide))
            cases hF : takeForm n (d + 1) r with
            | error f =>
              rw [hF] at ih
              simp only [Except.bind]
              rw [step]
              exact ih
            | ok y =>
              rw [hF] at ih
              obtain ⟨g, b, hg, e1, e2, e3⟩ := ih
              simp only [Except.bind]
              by_cases h41 : next (.sign 41) y.2 = true
              · obtain ⟨q, s, hs⟩ := next_sign h41
                have et : takeSign 41 y.2 = .ok s := by
                  unfold takeSign taken
                  rw [if_pos h41, hs]
                  rfl
                rw [et]
                simp only [Except.map]
                have hsl : s.length + 1 = y.2.length := by rw [hs]; rfl
                refine ⟨?_, by omega⟩
                rw [step, e1, hs]
                conv => lhs; unfold go
                rw [if_neg (by simp [tokEq]), if_neg (by simp [Dft.takes, tokEq]), if_neg (by simp [opens, tokEq])]
                simp only [Dft.put]
                rw [popG_app g _ _ hg]
                simp only
                congr 1
              · have h41' : next (.sign 41) y.2 = false := by simpa using h41
                have et : takeSign 41 y.2 = wrong y.2 := by
                  unfold takeSign taken
                  rw [if_neg h41]
                rw [et]
                simp only [wrong, Except.map]
                rw [step, e1]
                cases hy : y.2 with
                | nil => rfl
                | cons t s =>
                  rw [hy] at e2 h41'
                  rw [next_cons] at e2 h41'
                  unfold go
                  rw [if_neg (by simp [Dft.whole]), if_pos (by simp [Dft.takes, e2, h41'])]
                  rfl
        · rw [if_neg h40]
          cases hN : takeName l with
          | error f =>
            simp only [Except.map]
            obtain ⟨hf, hn'⟩ := takeName_err hN
            cases l with
            | nil => rw [hf]; rfl
            | cons t r =>
              have h1 := hn' t r rfl
              rw [next_cons] at h126 h40
              unfold go
              rw [if_neg (by simp [Dft.whole, he]), if_pos (by simp [Dft.takes, he, h1]; exact ⟨by simpa using h126, by simpa using h40⟩), hf]
              rfl
          | ok x =>
            simp only [Except.map]
            obtain ⟨p, b, r, hl, hb, hx⟩ := takeName_ok hN
            subst hx
            refine ⟨?_, by rw [hl]; simp⟩
            rw [hl]
            conv => lhs; unfold go
            rw [if_neg (by simp [Dft.whole, he]), if_neg (by simp [Dft.takes, he, hb]), if_neg (by simp [opens, tokEq])]
            simp only [Dft.put, Dft.aft, rawNames, rawEnc, formOf, enc, keysOf_cons, keysOf_nil]
            rfl
theorem normal_formOf (r : Raw) : normal (formOf (rawNames r).eraseDups r) = formOf (rawNames r).eraseDups r := by
  rw [← keysOf_eraseDups, normal_eq]
  have hv : ∀ (ks : List Bytes) (r : Raw), vars (formOf ks r) = (rawNames r).map (idx ks) := by
    intro ks r
    induction r with
    | var n => rfl
    | imp a b ha hb => simp [formOf, vars, rawNames, ha, hb]
    | neg a ha => simp [formOf, vars, rawNames, ha]
  rw [hv]
  have inj : ∀ a b, a ∈ ([] : List Bytes) ∨ a ∈ rawNames r → b ∈ ([] : List Bytes) ∨ b ∈ rawNames r → idx (keysOf [] (rawNames r)) a = idx (keysOf [] (rawNames r)) b → a = b := by
    intro a b ha hb e
    refine idx_inj (mem_keysOf.mpr ha) (mem_keysOf.mpr hb) e
  have km := keysOf_map (p := idx (keysOf [] (rawNames r))) (l := rawNames r) (ks := []) inj
  rw [List.map_nil] at km
  rw [km]
  have key : ∀ (q : Raw), (∀ n ∈ rawNames q, n ∈ rawNames r) → rename (idx ((keysOf [] (rawNames r)).map (idx (keysOf [] (rawNames r))))) (formOf (keysOf [] (rawNames r)) q) = formOf (keysOf [] (rawNames r)) q := by
    intro q
    induction q with
    | var n =>
      intro h
      have hn : n ∈ rawNames r := h n (by simp [rawNames])
      simp only [formOf, rename, Form.var.injEq]
      show idx _ (idx (keysOf [] (rawNames r)) n) = idx (keysOf [] (rawNames r)) n
      rw [idx_map]
      intro b hb e
      exact inj b n (.inr (by simpa using mem_keysOf.mp hb)) (.inr hn) e
    | imp a b ha hb =>
      intro h
      simp only [formOf, rename, Form.imp.injEq]
      exact ⟨ha fun n hn => h n (by simp [rawNames, hn]), hb fun n hn => h n (by simp [rawNames, hn])⟩
    | neg a ha =>
      intro h
      simp only [formOf, rename, Form.neg.injEq]
      exact ha fun n hn => h n (by simpa [rawNames] using hn)
  exact key r fun n hn => hn
/-- a formula is read as the specification reads it -/
theorem goF_eq (l : Toks) : goF l = (takeFormula l).map fun x => (enc x.1, x.2) := by
  have h := (sim (2 * l.length + 2)).1 0 l .init (Nat.le_refl _) rfl rfl topOk_nil
  unfold goF takeFormula
  cases hF : takeForm (2 * l.length + 2) 0 l with
  | error f =>
    rw [hF] at h
    rw [show go .init l = .error f from h]
    rfl
  | ok x =>
    rw [hF] at h
    obtain ⟨g, b, hg, e1, e2, e3⟩ := h
    rw [e1]
    simp only [Except.bind]
    by_cases h59 : next (.sign 59) x.2 = true
    · obtain ⟨p, r, hr⟩ := next_sign h59
      have et : takeSign 59 x.2 = .ok r := by
        unfold takeSign taken
        rw [if_pos h59, hr]
        rfl
      rw [et, hr]
      have eg : go { signs := Dft.init.signs ++ rawEnc Dft.init.ks x.1, ks := keysOf Dft.init.ks (rawNames x.1), ar := g ++ Dft.init.ar, br := Dft.init.br, ended := true, beg := b } (⟨p, .sign 59⟩ :: r) = .ok (rawEnc [] x.1, r) := by
        unfold go
        rw [if_pos (by simp [tokEq, Dft.whole, Dft.init])]
        rfl
      rw [eg]
      have ef : rawEnc [] x.1 = enc (formOf (rawNames x.1).eraseDups x.1) := by
        unfold rawEnc
        rw [keysOf_eraseDups]
      simp only
      rw [ef, enc_length]
      by_cases c : 40 < size (formOf (rawNames x.1).eraseDups x.1)
      · rw [if_pos c, if_pos (show LONG < _ from c)]
        rfl
      · rw [if_neg c, if_neg (show ¬ LONG < _ from c)]
        rfl
    · have h59' : next (.sign 59) x.2 = false := by simpa using h59
      have et : takeSign 59 x.2 = wrong x.2 := by
        unfold takeSign taken
        rw [if_neg h59]
      rw [et]
      simp only [wrong]
      cases hy : x.2 with
      | nil => rfl
      | cons t s =>
        rw [hy] at e2 h59'
        rw [next_cons] at e2 h59'
        unfold go
        rw [if_neg (by simp [h59']), if_pos (by simp [Dft.takes, e2, Dft.init])]
        rfl
theorem takeFormula_normal {l : Toks} {x : Form × Toks} (h : takeFormula l = .ok x) : normal x.1 = x.1 ∧ size x.1 ≤ 40 := by
  unfold takeFormula at h
  cases hF : takeForm (2 * l.length + 2) 0 l with
  | error f => rw [hF] at h; cases h
  | ok y =>
    rw [hF] at h
    simp only [Except.bind] at h
    cases hS : takeSign 59 y.2 with
    | error f => rw [hS] at h; cases h
    | ok m =>
      rw [hS] at h
      simp only at h
      split at h
      · cases h
      · rename_i hc
        cases h
        exact ⟨normal_formOf y.1, Nat.le_of_not_lt hc⟩
end Dr

namespace Dr
open Vapcma VapcmBase

/-! ## Tokens -/
def nb (b : Bytes) : List Nat := b.map UInt8.toNat
theorem nb_append (a b : Bytes) : nb (a ++ b) = nb a ++ nb b := List.map_append
theorem nb_inj {a b : Bytes} (h : nb a = nb b) : a = b := by
  unfold nb at h
  exact List.map_inj_right (fun x y e => UInt8.toNat_inj.mp e) |>.mp h
def isSig (b : UInt8) : Bool := SIGNS.contains b
def isAl (b : UInt8) : Bool := isLetter b || isDigit b
/-- the signs that the program knows -/
def blanksN : List Nat := [32, 9, 10]
def signsN : List Nat := [40, 41, 44, 58, 59, 62, 126]
def digitsN : List Nat := [48, 49, 50, 51, 52, 53, 54, 55, 56, 57]
def lettersN : List Nat := [97, 98, 99, 100, 101, 102, 103, 104, 105, 106, 107, 108, 109, 110, 111, 112, 113, 114, 115, 116, 117, 118, 119, 120, 121, 122, 65, 66, 67, 68, 69, 70, 71, 72, 73, 74, 75, 76, 77, 78, 79, 80, 81, 82, 83, 84, 85, 86, 87, 88, 89, 90]
def knownN : List Nat := blanksN ++ [35] ++ signsN ++ digitsN ++ lettersN
def cv (b : UInt8) : Nat := if b.toNat ∈ knownN then b.toNat else 63
theorem all_bytes {p : UInt8 → Prop} (h : ∀ n, n < 256 → p (UInt8.ofNat n)) (b : UInt8) : p b := by
  have := h b.toNat (UInt8.toNat_lt b)
  rwa [UInt8.ofNat_toNat] at this
theorem cv_blank (b : UInt8) : cv b ∈ blanksN ↔ isBlank b = true := by
  revert b
  exact all_bytes (p := fun b => cv b ∈ blanksN ↔ isBlank b = true) (by decide +kernel)
theorem cv_hash (b : UInt8) : cv b = 35 ↔ (b == 35) = true := by
  revert b
  exact all_bytes (p := fun b => cv b = 35 ↔ (b == 35) = true) (by decide +kernel)
theorem cv_ten (b : UInt8) : cv b = 10 ↔ b = 10 := by
  revert b
  exact all_bytes (p := fun b => cv b = 10 ↔ b = 10) (by decide +kernel)
theorem cv_sig (b : UInt8) : cv b ∈ signsN ↔ isSig b = true := by
  revert b
  exact all_bytes (p := fun b => cv b ∈ signsN ↔ isSig b = true) (by decide +kernel)
theorem cv_digit (b : UInt8) : cv b ∈ digitsN ↔ isDigit b = true := by
  revert b
  exact all_bytes (p := fun b => cv b ∈ digitsN ↔ isDigit b = true) (by decide +kernel)
theorem cv_letter (b : UInt8) : cv b ∈ lettersN ↔ isLetter b = true := by
  revert b
  exact all_bytes (p := fun b => cv b ∈ lettersN ↔ isLetter b = true) (by decide +kernel)
theorem cv_al (b : UInt8) : cv b ∈ lettersN ++ digitsN ↔ isAl b = true := by
  revert b
  exact all_bytes (p := fun b => cv b ∈ lettersN ++ digitsN ↔ isAl b = true) (by decide +kernel)
theorem kinds (b : UInt8) : (isSig b = true → isLetter b = false ∧ isDigit b = false) ∧ (isLetter b = true → isDigit b = false) ∧ (isSig b = true ∨ isLetter b = true ∨ isDigit b = true → cv b = b.toNat) := by
  revert b
  exact all_bytes (p := fun b => (isSig b = true → isLetter b = false ∧ isDigit b = false) ∧ (isLetter b = true → isDigit b = false) ∧ (isSig b = true ∨ isLetter b = true ∨ isDigit b = true → cv b = b.toNat)) (by decide +kernel)
theorem digit_val (b : UInt8) : isDigit b = true ↔ 48 ≤ b.toNat ∧ b.toNat ≤ 57 := by
  unfold isDigit
  exact decide_eq_true_iff
theorem sig_lt (b : UInt8) : b.toNat < 256 := UInt8.toNat_lt b

/-! ### all tokens from a place on -/
theorem token_pos {b : UInt8} {r : Bytes} {x : Tok × Nat} (h : token (b :: r) = some x) : 1 ≤ x.2 := by
  unfold token at h
  simp only at h
  split at h
  · rename_i hl
    split at h
    · cases h
    · cases h
      rw [List.takeWhile_cons, if_pos (by simp [hl])]
      simp
  · split at h
    · rename_i hd
      cases hN : numberOf ((b :: r).takeWhile isDigit) with
      | none => rw [hN] at h; cases h
      | some n =>
        rw [hN] at h
        cases h
        simp only
        rw [List.takeWhile_cons, if_pos hd]
        simp
    · split at h
      · cases h
        simp
      · cases h
theorem lex_fuel : ∀ (n m at_ : Nat) (l : Bytes), l.length ≤ n → l.length ≤ m → lex n at_ l = lex m at_ l
  | n, m, at_, [], _, _ => by
    cases n <;> cases m <;> rfl
  | 0, m, at_, b :: r, h, _ => by simp at h
  | n + 1, 0, at_, b :: r, _, h => by simp at h
  | n + 1, m + 1, at_, b :: r, hn, hm => by
    have hn' : r.length ≤ n := by simpa using hn
    have hm' : r.length ≤ m := by simpa using hm
    unfold lex
    by_cases h1 : isBlank b = true
    · rw [if_pos h1, if_pos h1]
      exact lex_fuel n m _ r hn' hm'
    · rw [if_neg h1, if_neg h1]
      by_cases h2 : (b == 35) = true
      · rw [if_pos h2, if_pos h2]
        have := (List.dropWhile_sublist (p := fun x : UInt8 => x != 10) (l := r)).length_le
        exact lex_fuel n m _ _ (by omega) (by omega)
      · rw [if_neg h2, if_neg h2]
        cases ht : token (b :: r) with
        | none => rfl
        | some x =>
          have := token_pos ht
          simp only
          have hd : ((b :: r).drop x.2).length ≤ r.length := by rw [List.length_drop, List.length_cons]; omega
          rw [lex_fuel n m _ _ (by omega) (by omega)]
/-- from the place p of the bytes on -/
def lexAt (d : Bytes) (p : Nat) : Except Fault Toks := lex d.length p (d.drop p)
theorem lexAt_eq (d : Bytes) (p n : Nat) (h : (d.drop p).length ≤ n) : lex n p (d.drop p) = lexAt d p := lex_fuel _ _ _ _ h (by rw [List.length_drop]; omega)
theorem drop_get {d : Bytes} {p : Nat} {b : UInt8} (h : d[p]? = some b) : d.drop p = b :: d.drop (p + 1) := by
  have hl := get_lt h
  rw [List.drop_eq_getElem_cons hl]
  rw [List.getElem?_eq_getElem hl] at h
  rw [Option.some.inj h]
theorem lexAt_end (d : Bytes) {p : Nat} (h : p = d.length) : lexAt d p = .ok [⟨p, .last⟩] := by
  unfold lexAt
  rw [List.drop_of_length_le (by omega)]
  cases d.length <;> rfl
theorem lexAt_blank {d : Bytes} {p : Nat} {b : UInt8} (h : d[p]? = some b) (hb : isBlank b = true) : lexAt d p = lexAt d (p + 1) := by
  have hl := get_lt h
  rw [← lexAt_eq d p (d.length + 1) (by rw [List.length_drop]; omega), drop_get h]
  conv => lhs; unfold lex
  rw [if_pos hb]
  exact lexAt_eq d (p + 1) _ (by rw [List.length_drop]; omega)
theorem dropWhile_drop (q : UInt8 → Bool) (l : Bytes) : l.dropWhile q = l.drop (l.takeWhile q).length := by
  induction l with
  | nil => rfl
  | cons a l ih =>
    by_cases h : q a = true
    · rw [List.dropWhile_cons, if_pos h, List.takeWhile_cons, if_pos h, List.length_cons, List.drop_succ_cons, ih]
    · rw [List.dropWhile_cons, if_neg h, List.takeWhile_cons, if_neg h]
      rfl
theorem lexAt_hash {d : Bytes} {p : Nat} {b : UInt8} (h : d[p]? = some b) (hb : isBlank b = false) (h35 : (b == 35) = true) : lexAt d p = lexAt d (p + 1 + ((d.drop (p + 1)).takeWhile (· != 10)).length) := by
  have hl := get_lt h
  rw [← lexAt_eq d p (d.length + 1) (by rw [List.length_drop]; omega), drop_get h]
  conv => lhs; unfold lex
  rw [if_neg (by rw [hb]; decide), if_pos h35, dropWhile_drop, List.drop_drop]
  exact lexAt_eq d _ _ (by rw [List.length_drop]; omega)
theorem lexAt_tok {d : Bytes} {p : Nat} {b : UInt8} (h : d[p]? = some b) (hb : isBlank b = false) (h35 : (b == 35) = false) : lexAt d p = match token (d.drop p) with
    | none => .error ⟨2, p⟩
    | some x => (lexAt d (p + x.2)).map fun l => ⟨p, x.1⟩ :: l := by
  have hl := get_lt h
  rw [← lexAt_eq d p (d.length + 1) (by rw [List.length_drop]; omega), drop_get h]
  conv => lhs; unfold lex
  rw [if_neg (by rw [hb]; decide), if_neg (by rw [h35]; decide)]
  cases ht : token (b :: d.drop (p + 1)) with
  | none => rfl
  | some x =>
    simp only
    rw [← drop_get h, List.drop_drop]
    rw [lexAt_eq d (p + x.2) _ (by rw [List.length_drop]; omega)]
theorem tokens_eq (d : Bytes) (h : d.length ≤ 4096) : tokens d = lexAt d 0 := by
  unfold tokens
  rw [if_neg (by show ¬ 4096 < _; omega)]
  exact lexAt_eq d 0 (d.length + 1) (by simp)
theorem tokens_long (d : Bytes) (h : 4096 < d.length) : tokens d = .error ⟨1, 4096⟩ := by
  unfold tokens
  rw [if_pos (show TEXT < _ from h)]
  rfl

/-! ### the token at a place, as the program looks for it -/
def runLen (q : UInt8 → Bool) (d : Bytes) (p : Nat) : Nat := ((d.drop p).takeWhile q).length
theorem runLen_step {q : UInt8 → Bool} {d : Bytes} {p : Nat} {b : UInt8} (h : d[p]? = some b) (hq : q b = true) : runLen q d p = runLen q d (p + 1) + 1 := by
  unfold runLen
  rw [drop_get h, List.takeWhile_cons, if_pos hq]
  rfl
theorem runLen_stop {q : UInt8 → Bool} {d : Bytes} {p : Nat} {b : UInt8} (h : d[p]? = some b) (hq : q b = false) : runLen q d p = 0 := by
  unfold runLen
  rw [drop_get h, List.takeWhile_cons, if_neg (by rw [hq]; decide)]
  rfl
theorem runLen_end {q : UInt8 → Bool} {d : Bytes} {p : Nat} (h : d.length ≤ p) : runLen q d p = 0 := by
  unfold runLen
  rw [List.drop_of_length_le h]
  rfl
theorem runLen_le (q : UInt8 → Bool) (d : Bytes) (p : Nat) : runLen q d p ≤ d.length - p := by
  unfold runLen
  have := (List.takeWhile_sublist q (l := d.drop p)).length_le
  rwa [List.length_drop] at this
theorem take_runLen (q : UInt8 → Bool) (d : Bytes) (p : Nat) : (d.drop p).take (runLen q d p) = (d.drop p).takeWhile q := by
  unfold runLen
  exact List.prefix_iff_eq_take.mp (List.takeWhile_prefix q) |>.symm
/-- the number's digits are right: as is_number asks -/
def numOk (w : Bytes) : Bool := decide (w ≠ []) && decide (w.length ≤ 10) && !(decide (1 < w.length) && decide (w.head? = some 48)) && decide (decimal w ≤ 1000000000)
theorem numberOf_ok {w : Bytes} (h : numOk w = true) : numberOf w = some (decimal w) := by
  unfold numOk at h
  simp only [Bool.and_eq_true, decide_eq_true_eq, Bool.not_eq_true', Bool.and_eq_false_iff, decide_eq_false_iff_not] at h
  unfold numberOf
  rw [if_neg]
  rintro (c | c | c | c)
  · exact h.1.1.1 c
  · omega
  · rcases h.1.2 with k | k
    · exact k c.1
    · exact k c.2
  · have : 1000000000 < decimal w := c
    omega
theorem numberOf_bad {w : Bytes} (h : numOk w = false) : numberOf w = none := by
  unfold numberOf
  rw [if_pos]
  unfold numOk at h
  by_cases c1 : w = []
  · exact .inl c1
  by_cases c2 : 10 < w.length
  · exact .inr (.inl c2)
  by_cases c3 : 1 < w.length ∧ w.head? = some 48
  · exact .inr (.inr (.inl c3))
  by_cases c4 : 1000000000 < decimal w
  · exact .inr (.inr (.inr c4))
  exfalso
  have : numOk w = true := by
    unfold numOk
    simp only [Bool.and_eq_true, decide_eq_true_eq, Bool.not_eq_true', Bool.and_eq_false_iff, decide_eq_false_iff_not]
    refine ⟨⟨⟨c1, by omega⟩, ?_⟩, by omega⟩
    by_cases k : 1 < w.length
    · exact .inr fun e => c3 ⟨k, e⟩
    · exact .inl k
  unfold numOk at this
  rw [this] at h
  cases h
theorem token_sig {b : UInt8} {r : Bytes} (h : isSig b = true) : token (b :: r) = some (.sign b.toNat, 1) := by
  obtain ⟨k1, k2⟩ := (kinds b).1 h
  unfold token
  simp only
  rw [if_neg (by rw [k1]; decide), if_neg (by rw [k2]; decide), if_pos (show SIGNS.contains b = true from h)]
theorem token_letter {b : UInt8} {r : Bytes} (h : isLetter b = true) : token (b :: r) = if 16 < ((b :: r).takeWhile isAl).length then none else some (.name ((b :: r).takeWhile isAl), ((b :: r).takeWhile isAl).length) := by
  unfold token
  simp only
  rw [if_pos h]
  rfl
theorem token_digit {b : UInt8} {r : Bytes} (h : isDigit b = true) (hl : isLetter b = false) : token (b :: r) = if numOk ((b :: r).takeWhile isDigit) = true then some (.num (decimal ((b :: r).takeWhile isDigit)), ((b :: r).takeWhile isDigit).length) else none := by
  unfold token
  simp only
  rw [if_neg (by rw [hl]; decide), if_pos h]
  by_cases c : numOk ((b :: r).takeWhile isDigit) = true
  · rw [if_pos c, numberOf_ok c]
    rfl
  · rw [if_neg c, numberOf_bad (by simpa using c)]
    rfl
theorem token_none {b : UInt8} {r : Bytes} (h1 : isSig b = false) (h2 : isLetter b = false) (h3 : isDigit b = false) : token (b :: r) = none := by
  unfold token
  simp only
  rw [if_neg (by rw [h2]; decide), if_neg (by rw [h3]; decide), if_neg (by rw [show SIGNS.contains b = false from h1]; decide)]

/-! ### tokens as the program keeps them: word and place -/
abbrev Word := Bytes × Nat
def TR (a : Word) (t : PTok) : Prop := a.2 = t.place ∧ match t.tok with
  | .name b => a.1 = b ∧ ∃ c r, b = c :: r ∧ isLetter c = true
  | .num _ => ∃ c r, a.1 = c :: r ∧ isDigit c = true
  | .sign c => ∃ b : UInt8, a.1 = [b] ∧ b.toNat = c ∧ isSig b = true
  | .last => a.1 = []
inductive TRs : List Word → Toks → Prop
  | nil : TRs [] []
  | cons {a : Word} {t : PTok} {l : List Word} {r : Toks} (h : TR a t) (k : TRs l r) : TRs (a :: l) (t :: r)
theorem TRs.append {l m : List Word} {r s : Toks} (h : TRs l r) (k : TRs m s) : TRs (l ++ m) (r ++ s) := by
  induction h with
  | nil => exact k
  | cons h _ ih => exact .cons h ih
theorem TRs.length {l : List Word} {r : Toks} (h : TRs l r) : l.length = r.length := by
  induction h with
  | nil => rfl
  | cons h _ ih => simp [ih]
theorem TRs.get {l : List Word} {r : Toks} (h : TRs l r) : ∀ {i : Nat} {t : PTok}, r[i]? = some t → ∃ a, l[i]? = some a ∧ TR a t := by
  induction h with
  | nil => intro i t e; simp at e
  | @cons a u l r h k ih =>
    intro i t e
    cases i with
    | zero =>
      simp only [List.getElem?_cons_zero, Option.some.injEq] at e
      subst e
      exact ⟨a, rfl, h⟩
    | succ i =>
      simp only [List.getElem?_cons_succ] at e
      obtain ⟨a, e1, e2⟩ := ih e
      exact ⟨a, e1, e2⟩
/-- whether a word is a written sign -/
theorem TR.sign {a : Word} {t : PTok} (h : TR a t) {b : UInt8} (hb : isSig b = true) : a.1 = [b] ↔ tokEq t.tok (.sign b.toNat) = true := by
  obtain ⟨p, tk⟩ := t
  obtain ⟨h1, h2⟩ := h
  have kb := kinds b
  cases tk with
  | name x =>
    obtain ⟨e, c, r, e1, e2⟩ := h2
    simp only [tokEq, Bool.false_eq_true, iff_false]
    intro k
    rw [e, e1] at k
    cases k
    rw [(kb.1 hb).1] at e2
    cases e2
  | num n =>
    obtain ⟨c, r, e1, e2⟩ := h2
    simp only [tokEq, Bool.false_eq_true, iff_false]
    intro k
    rw [e1] at k
    cases k
    rw [(kb.1 hb).2] at e2
    cases e2
  | sign c =>
    obtain ⟨x, e1, e2, e3⟩ := h2
    simp only [tokEq, beq_iff_eq]
    rw [e1]
    constructor
    · intro k
      cases k
      exact e2.symm
    · intro k
      rw [← e2] at k
      rw [UInt8.toNat_inj.mp k]
  | last =>
    simp only [tokEq, Bool.false_eq_true, iff_false]
    intro k
    rw [show a.1 = [] from h2] at k
    cases k
theorem TR.word {a : Word} {t : PTok} (h : TR a t) {w : Bytes} (hw : ∃ c r, w = c :: r ∧ isLetter c = true) : a.1 = w ↔ tokEq t.tok (.name w) = true := by
  obtain ⟨p, tk⟩ := t
  obtain ⟨h1, h2⟩ := h
  obtain ⟨c, r, rfl, hc⟩ := hw
  have kc := kinds c
  cases tk with
  | name x =>
    obtain ⟨e, _⟩ := h2
    simp only [tokEq, beq_iff_eq]
    rw [e]
  | num n =>
    obtain ⟨d, s, e1, e2⟩ := h2
    simp only [tokEq, Bool.false_eq_true, iff_false]
    intro k
    rw [e1] at k
    cases k
    rw [kc.2.1 hc] at e2
    cases e2
  | sign d =>
    obtain ⟨x, e1, e2, e3⟩ := h2
    simp only [tokEq, Bool.false_eq_true, iff_false]
    intro k
    rw [e1] at k
    have e4 : x = c := (List.cons.inj k).1
    rw [← e4, ((kinds x).1 e3).1] at hc
    cases hc
  | last =>
    simp only [tokEq, Bool.false_eq_true, iff_false]
    intro k
    rw [show a.1 = [] from h2] at k
    cases k
theorem TR.last {a : Word} {t : PTok} (h : TR a t) : a.1 = [] ↔ tokEq t.tok .last = true := by
  obtain ⟨p, tk⟩ := t
  obtain ⟨h1, h2⟩ := h
  cases tk with
  | name x =>
    obtain ⟨e, c, r, e1, e2⟩ := h2
    simp only [tokEq, Bool.false_eq_true, iff_false]
    rw [e, e1]
    simp
  | num n =>
    obtain ⟨d, s, e1, e2⟩ := h2
    simp only [tokEq, Bool.false_eq_true, iff_false]
    rw [e1]
    simp
  | sign d =>
    obtain ⟨x, e1, e2, e3⟩ := h2
    simp only [tokEq, Bool.false_eq_true, iff_false]
    rw [e1]
    simp
  | last => simp only [tokEq, iff_true]; exact h2
/-- is_name: not the end, a letter first, no word of the form -/
def wordIsName (w : Bytes) : Bool := match w with
  | [] => false
  | c :: _ => isLetter c && !RESERVED.contains w
theorem TR.isName {a : Word} {t : PTok} (h : TR a t) : wordIsName a.1 = isName t.tok := by
  obtain ⟨p, tk⟩ := t
  obtain ⟨h1, h2⟩ := h
  cases tk with
  | name x =>
    obtain ⟨e, c, r, e1, e2⟩ := h2
    rw [e, e1]
    simp [wordIsName, Dr.isName, e2]
  | num n =>
    obtain ⟨d, s, e1, e2⟩ := h2
    rw [e1]
    have : isLetter d = false := by
      cases hl : isLetter d with
      | false => rfl
      | true => rw [(kinds d).2.1 hl] at e2; cases e2
    simp [wordIsName, Dr.isName, this]
  | sign d =>
    obtain ⟨x, e1, e2, e3⟩ := h2
    rw [e1]
    simp [wordIsName, Dr.isName, ((kinds x).1 e3).1]
  | last =>
    rw [show a.1 = [] from h2]
    rfl
end Dr

namespace Dr
open Vapcma VapcmBase

/-! ## Reading a text, item by item -/
theorem bind_ok {ε α β : Type} (a : α) (f : α → Except ε β) : (Except.ok a).bind f = f a := rfl
theorem bind_err {ε α β : Type} (e : ε) (f : α → Except ε β) : (Except.error e : Except ε α).bind f = .error e := rfl
theorem taken_lt {t : Tok} {l m : Toks} (h : taken t l = .ok m) : m.length + 1 = l.length ∧ ∃ x, l = x :: m ∧ tokEq x.tok t = true := by
  unfold taken at h
  split at h
  · rename_i hn
    cases l with
    | nil => simp [next] at hn
    | cons x r =>
      cases h
      exact ⟨rfl, x, rfl, hn⟩
  · cases h
theorem takeName_lt {l : Toks} {x : PName × Toks} (h : takeName l = .ok x) : x.2.length + 1 = l.length := by
  obtain ⟨p, b, r, e, _, e2⟩ := takeName_ok h
  rw [e, e2]
  rfl
theorem newName_lt {old : List Bytes} {l : Toks} {x : Bytes × Toks} (h : newName old l = .ok x) : x.2.length + 1 = l.length := by
  unfold newName at h
  cases hN : takeName l with
  | error f => rw [hN] at h; cases h
  | ok y =>
    rw [hN, bind_ok] at h
    split at h
    · cases h
    · cases h
      exact takeName_lt hN
theorem takeOld_lt {old : List Bytes} {l : Toks} {x : Nat × Toks} (h : takeOld old l = .ok x) : x.2.length + 1 = l.length := by
  unfold takeOld at h
  cases hN : takeName l with
  | error f => rw [hN] at h; cases h
  | ok y =>
    rw [hN, bind_ok] at h
    split at h
    · cases h
    · cases h
      exact takeName_lt hN
theorem takeFormula_lt {l : Toks} {x : Form × Toks} (h : takeFormula l = .ok x) : x.2.length < l.length := by
  unfold takeFormula at h
  have hs := (sim (2 * l.length + 2)).1 0 l .init (Nat.le_refl _) rfl rfl topOk_nil
  cases hF : takeForm (2 * l.length + 2) 0 l with
  | error f => rw [hF] at h; cases h
  | ok y =>
    rw [hF] at h hs
    obtain ⟨g, b, _, _, _, hl⟩ := hs
    rw [bind_ok] at h
    cases hS : takeSign 59 y.2 with
    | error f => rw [hS] at h; cases h
    | ok m =>
      rw [hS, bind_ok] at h
      have := (taken_lt hS).1
      simp only at h
      split at h
      · cases h
      · cases h
        simp only
        omega
def oneAxiom (as_ : List Axiom) (l : Toks) : Except Fault (Axiom × Toks) := (newName (as_.map fun a => a.name) l).bind fun x => (takeSign 58 x.2).bind fun r => (takeFormula r).bind fun f => .ok (⟨x.1, f.1⟩, f.2)
theorem oneAxiom_lt {as_ : List Axiom} {l : Toks} {x : Axiom × Toks} (h : oneAxiom as_ l = .ok x) : x.2.length < l.length := by
  unfold oneAxiom at h
  cases h1 : newName (as_.map fun a => a.name) l with
  | error f => rw [h1] at h; cases h
  | ok y =>
    rw [h1, bind_ok] at h
    cases h2 : takeSign 58 y.2 with
    | error f => rw [h2] at h; cases h
    | ok r =>
      rw [h2, bind_ok] at h
      cases h3 : takeFormula r with
      | error f => rw [h3] at h; cases h
      | ok f =>
        rw [h3, bind_ok] at h
        cases h
        have := newName_lt h1
        have := (taken_lt h2).1
        have := takeFormula_lt h3
        simp only
        omega
theorem takeAxioms_unfold (n : Nat) (as_ : List Axiom) (l : Toks) : takeAxioms (n + 1) as_ l = if nextWord "axiom" l = true then (if 6 ≤ as_.length then .error ⟨4, here l⟩ else (oneAxiom as_ (l.drop 1)).bind fun y => takeAxioms n (as_ ++ [y.1]) y.2) else if as_.isEmpty = true then wrong l else .ok (as_, l) := by
  conv => lhs; unfold takeAxioms
  split
  · show (if 6 ≤ as_.length then _ else _) = _
    split
    · rfl
    · unfold oneAxiom
      cases h1 : newName (as_.map fun a => a.name) (l.drop 1) with
      | error f => rfl
      | ok y =>
        simp only [bind_ok]
        cases h2 : takeSign 58 y.2 with
        | error f => rfl
        | ok r =>
          simp only [bind_ok]
          cases h3 : takeFormula r with
          | error f => rfl
          | ok f => rfl
  · rfl
theorem nextWord_len {s : String} {l : Toks} (h : nextWord s l = true) : (l.drop 1).length + 1 = l.length := by
  cases l with
  | nil => simp [nextWord, next] at h
  | cons x r => simp
theorem takeAxioms_fuel : ∀ (n m : Nat) (as_ : List Axiom) (l : Toks), l.length < n → l.length < m → takeAxioms n as_ l = takeAxioms m as_ l
  | n + 1, m + 1, as_, l, hn, hm => by
    rw [takeAxioms_unfold, takeAxioms_unfold]
    split
    · rename_i hw
      split
      · rfl
      · cases h : oneAxiom as_ (l.drop 1) with
        | error f => rfl
        | ok y =>
          simp only [bind_ok]
          have := oneAxiom_lt h
          have := nextWord_len hw
          exact takeAxioms_fuel n m _ _ (by omega) (by omega)
    · rfl
/-- axioms from here on -/
def axT (as_ : List Axiom) (l : Toks) : Except Fault (List Axiom × Toks) := takeAxioms (l.length + 1) as_ l
theorem axT_eq (as_ : List Axiom) (l : Toks) : axT as_ l = if nextWord "axiom" l = true then (if 6 ≤ as_.length then .error ⟨4, here l⟩ else (oneAxiom as_ (l.drop 1)).bind fun y => axT (as_ ++ [y.1]) y.2) else if as_.isEmpty = true then wrong l else .ok (as_, l) := by
  unfold axT
  rw [takeAxioms_unfold]
  split
  · rename_i hw
    split
    · rfl
    · cases h : oneAxiom as_ (l.drop 1) with
      | error f => rfl
      | ok y =>
        simp only [bind_ok]
        have := oneAxiom_lt h
        have := nextWord_len hw
        exact takeAxioms_fuel _ _ _ _ (by omega) (by omega)
  · rfl
def oneRow (names : List Bytes) (rs : List Row) (l : Toks) : Except Fault (Row × Toks) :=
  (newName (names ++ rs.map fun r => r.name) l).bind fun x => (takeSign 58 x.2).bind fun r => (takeOld (names ++ rs.map fun r => r.name) r).bind fun i => (takeSign 44 i.2).bind fun r => (takeOld (names ++ rs.map fun r => r.name) r).bind fun j => (takeSign 59 j.2).bind fun m => .ok (⟨x.1, i.1, j.1⟩, m)
theorem oneRow_lt {names : List Bytes} {rs : List Row} {l : Toks} {x : Row × Toks} (h : oneRow names rs l = .ok x) : x.2.length < l.length := by
  unfold oneRow at h
  cases h1 : newName (names ++ rs.map fun r => r.name) l with
  | error f => rw [h1] at h; cases h
  | ok y =>
    rw [h1, bind_ok] at h
    cases h2 : takeSign 58 y.2 with
    | error f => rw [h2] at h; cases h
    | ok r =>
      rw [h2, bind_ok] at h
      cases h3 : takeOld (names ++ rs.map fun r => r.name) r with
      | error f => rw [h3] at h; cases h
      | ok i =>
        rw [h3, bind_ok] at h
        cases h4 : takeSign 44 i.2 with
        | error f => rw [h4] at h; cases h
        | ok r2 =>
          rw [h4, bind_ok] at h
          cases h5 : takeOld (names ++ rs.map fun r => r.name) r2 with
          | error f => rw [h5] at h; cases h
          | ok j =>
            rw [h5, bind_ok] at h
            cases h6 : takeSign 59 j.2 with
            | error f => rw [h6] at h; cases h
            | ok m =>
              rw [h6, bind_ok] at h
              cases h
              have := newName_lt h1
              have := (taken_lt h2).1
              have := takeOld_lt h3
              have := (taken_lt h4).1
              have := takeOld_lt h5
              have := (taken_lt h6).1
              simp only
              omega
theorem takeRows_unfold (names : List Bytes) (n : Nat) (rs : List Row) (l : Toks) : takeRows names (n + 1) rs l = if nextWord "row" l = true then (if 24 ≤ rs.length then .error ⟨4, here l⟩ else (oneRow names rs (l.drop 1)).bind fun y => takeRows names n (rs ++ [y.1]) y.2) else .ok (rs, l) := by
  conv => lhs; unfold takeRows
  split
  · show (if 24 ≤ rs.length then _ else _) = _
    split
    · rfl
    · unfold oneRow
      simp only
      cases h1 : newName (names ++ rs.map fun r => r.name) (l.drop 1) with
      | error f => rfl
      | ok y =>
        simp only [bind_ok]
        cases h2 : takeSign 58 y.2 with
        | error f => rfl
        | ok r =>
          simp only [bind_ok]
          cases h3 : takeOld (names ++ rs.map fun r => r.name) r with
          | error f => rfl
          | ok i =>
            simp only [bind_ok]
            cases h4 : takeSign 44 i.2 with
            | error f => rfl
            | ok r2 =>
              simp only [bind_ok]
              cases h5 : takeOld (names ++ rs.map fun r => r.name) r2 with
              | error f => rfl
              | ok j =>
                simp only [bind_ok]
                cases h6 : takeSign 59 j.2 with
                | error f => rfl
                | ok m => rfl
  · rfl
theorem takeRows_fuel (names : List Bytes) : ∀ (n m : Nat) (rs : List Row) (l : Toks), l.length < n → l.length < m → takeRows names n rs l = takeRows names m rs l
  | n + 1, m + 1, rs, l, hn, hm => by
    rw [takeRows_unfold, takeRows_unfold]
    split
    · rename_i hw
      split
      · rfl
      · cases h : oneRow names rs (l.drop 1) with
        | error f => rfl
        | ok y =>
          simp only [bind_ok]
          have := oneRow_lt h
          have := nextWord_len hw
          exact takeRows_fuel names n m _ _ (by omega) (by omega)
    · rfl
def rowT (names : List Bytes) (rs : List Row) (l : Toks) : Except Fault (List Row × Toks) := takeRows names (l.length + 1) rs l
theorem rowT_eq (names : List Bytes) (rs : List Row) (l : Toks) : rowT names rs l = if nextWord "row" l = true then (if 24 ≤ rs.length then .error ⟨4, here l⟩ else (oneRow names rs (l.drop 1)).bind fun y => rowT names (rs ++ [y.1]) y.2) else .ok (rs, l) := by
  unfold rowT
  rw [takeRows_unfold]
  split
  · rename_i hw
    split
    · rfl
    · cases h : oneRow names rs (l.drop 1) with
      | error f => rfl
      | ok y =>
        simp only [bind_ok]
        have := oneRow_lt h
        have := nextWord_len hw
        exact takeRows_fuel names _ _ _ _ (by omega) (by omega)
  · rfl
theorem takeGoals_fuel : ∀ (n m : Nat) (gs : List Form) (l : Toks), l.length < n → l.length < m → takeGoals n gs l = takeGoals m gs l
  | n + 1, m + 1, gs, l, hn, hm => by
    unfold takeGoals
    split
    · rfl
    · split
      · rename_i hw
        split
        · rfl
        · cases h : takeFormula (l.drop 1) with
          | error f => rfl
          | ok y =>
            simp only [bind_ok]
            have := takeFormula_lt h
            have := nextWord_len hw
            exact takeGoals_fuel n m _ _ (by omega) (by omega)
      · rfl
def goalT (gs : List Form) (l : Toks) : Except Fault (List Form) := takeGoals (l.length + 1) gs l
theorem goalT_eq (gs : List Form) (l : Toks) : goalT gs l = if next .last l = true then .ok gs else if nextWord "goal" l = true then (if 4 ≤ gs.length then .error ⟨4, here l⟩ else (takeFormula (l.drop 1)).bind fun f => goalT (gs ++ [f.1]) f.2) else wrong l := by
  unfold goalT
  conv => lhs; unfold takeGoals
  split
  · rfl
  · split
    · rename_i hw
      show (if 4 ≤ gs.length then _ else _) = _
      split
      · rfl
      · cases h : takeFormula (l.drop 1) with
        | error f => rfl
        | ok y =>
          simp only [bind_ok]
          have := takeFormula_lt h
          have := nextWord_len hw
          exact takeGoals_fuel _ _ _ _ (by omega) (by omega)
    · rfl
theorem readText_eq (l : Toks) : readText l = (axT [] l).bind fun a => (rowT (a.1.map fun x => x.name) [] a.2).bind fun r => (goalT [] r.2).bind fun g => .ok ⟨a.1, r.1, g⟩ := by
  unfold readText axT rowT goalT
  cases takeAxioms (l.length + 1) [] l with
  | error f => rfl
  | ok a =>
    simp only [bind_ok]
    cases takeRows (a.1.map fun x => x.name) (a.2.length + 1) [] a.2 with
    | error f => rfl
    | ok r =>
      simp only [bind_ok]
      cases takeGoals (r.2.length + 1) [] r.2 with
      | error f => rfl
      | ok g => rfl

/-! ### tokens end with the end's -/
def EndsL (l : Toks) : Prop := ∃ r p, l = r ++ [⟨p, .last⟩]
theorem EndsL.cons {t : PTok} {l : Toks} (h : EndsL l) : EndsL (t :: l) := by
  obtain ⟨r, p, rfl⟩ := h
  exact ⟨t :: r, p, rfl⟩
theorem EndsL.tail {t : PTok} {l : Toks} (h : EndsL (t :: l)) (k : tokEq t.tok .last = false) : EndsL l := by
  obtain ⟨r, p, e⟩ := h
  cases r with
  | nil =>
    simp only [List.nil_append, List.cons.injEq] at e
    rw [e.1] at k
    simp [tokEq] at k
  | cons a r =>
    simp only [List.cons_append, List.cons.injEq] at e
    exact ⟨r, p, e.2⟩
theorem EndsL.ne {l : Toks} (h : EndsL l) : ∃ t r, l = t :: r := by
  obtain ⟨r, p, rfl⟩ := h
  cases r with
  | nil => exact ⟨_, _, rfl⟩
  | cons a r => exact ⟨_, _, rfl⟩

/-! ### what a text's items are in order -/
def namesOf (as_ : List Axiom) (rs : List Row) : List Bytes := as_.map (fun a => a.name) ++ rs.map fun r => r.name
def formsOf (as_ : List Axiom) (rs : List Row) : List (Option Form) := rs.foldl addRow (as_.map fun a => some (normal a.f))
theorem formsOf_row (as_ : List Axiom) (rs : List Row) (r : Row) : formsOf as_ (rs ++ [r]) = addRow (formsOf as_ rs) r := by
  unfold formsOf
  rw [List.foldl_append]
  rfl
theorem addRow_length (l : List (Option Form)) (r : Row) : (addRow l r).length = l.length + 1 := by simp [addRow]
theorem formsOf_length (as_ : List Axiom) : ∀ rs : List Row, (formsOf as_ rs).length = as_.length + rs.length := by
  intro rs
  unfold formsOf
  have : ∀ (rs : List Row) (l : List (Option Form)), (rs.foldl addRow l).length = l.length + rs.length := by
    intro rs
    induction rs with
    | nil => intro l; rfl
    | cons r rs ih => intro l; rw [List.foldl_cons, ih, addRow_length, List.length_cons]; omega
  rw [this, List.length_map]
theorem namesOf_length (as_ : List Axiom) (rs : List Row) : (namesOf as_ rs).length = as_.length + rs.length := by simp [namesOf]
/-- a text as it is read: right in its names and its rows -/
structure Right (as_ : List Axiom) (rs : List Row) (gs : List Form) : Prop where
  na : as_.length ≤ 6
  nr : rs.length ≤ 24
  ng : gs.length ≤ 4
  nd : (namesOf as_ rs).Nodup
  ax : ∀ a ∈ as_, normal a.f = a.f ∧ size a.f ≤ 40
  gl : ∀ g ∈ gs, normal g = g ∧ size g ≤ 40
  row : ∀ k r, rs[k]? = some r → r.i < as_.length + k ∧ r.j < as_.length + k
  nm : ∀ n ∈ namesOf as_ rs, wordIsName n = true ∧ n.length ≤ 16
theorem Right.nil : Right [] [] [] := ⟨by simp, by simp, by simp, by simp [namesOf], by simp, by simp, by simp, by simp [namesOf]⟩
/-- each worked formula is normal and has at most 60 signs -/
theorem detach_small {f g r : Form} (hf : True) (h : detach f g = some r) : normal r = r ∧ size r ≤ 60 := by
  have nn : ∀ f : Form, normal (normal f) = normal f := by
    intro f
    rw [normal_eq f]
    refine (normal_rename ?_).trans (normal_eq f)
    intro a ha b hb e
    exact idx_inj (mem_keysOf.mpr (.inr ha)) (mem_keysOf.mpr (.inr hb)) e
  cases f with
  | var v =>
    have : r = .var 0 := (Option.some.inj h).symm
    rw [this]
    exact ⟨by decide, by simp [size]⟩
  | neg a => cases h
  | imp a b =>
    rw [detach_imp] at h
    cases hfit : fit a (rename (fun v => v + top (.imp a b)) g) b with
    | none => rw [hfit] at h; cases h
    | some x =>
      rw [hfit, Option.bind_some] at h
      split at h
      · cases h
      · rename_i hs
        have : r = normal x := (Option.some.inj h).symm
        rw [this, size_normal]
        exact ⟨nn x, by omega⟩
theorem formsOf_small {as_ : List Axiom} (rs : List Row) (h : ∀ a ∈ as_, normal a.f = a.f ∧ size a.f ≤ 40) : ∀ f, some f ∈ formsOf as_ rs → normal f = f ∧ size f ≤ 60 := by
  have key : ∀ (rs : List Row) (l : List (Option Form)), (∀ f, some f ∈ l → normal f = f ∧ size f ≤ 60) → ∀ f, some f ∈ rs.foldl addRow l → normal f = f ∧ size f ≤ 60 := by
    intro rs
    induction rs with
    | nil => intro l hl; exact hl
    | cons r rs ih =>
      intro l hl
      rw [List.foldl_cons]
      refine ih _ fun f hf => ?_
      unfold addRow at hf
      rcases List.mem_append.mp hf with hf | hf
      · exact hl f hf
      · simp only [List.mem_singleton] at hf
        cases h1 : (l[r.i]?).getD none with
        | none => rw [h1] at hf; cases hf
        | some x =>
          rw [h1, Option.bind_some] at hf
          cases h2 : (l[r.j]?).getD none with
          | none => rw [h2] at hf; cases hf
          | some y =>
            rw [h2, Option.bind_some] at hf
            exact detach_small trivial hf.symm
  refine key rs _ fun f hf => ?_
  obtain ⟨a, ha, e⟩ := List.mem_map.mp hf
  have : f = normal a.f := (Option.some.inj e).symm
  obtain ⟨h1, h2⟩ := h a ha
  rw [this, h1]
  exact ⟨h1, by omega⟩
end Dr

namespace Dr
open Vapcma VapcmBase
/-! ## What one hangs on -/
/-- rows that the list doesn't name are gone past -/
theorem needsBy_skip (t : Text_) (l : List Nat) : ∀ (n m : Nat), m ≤ n → (∀ j, m ≤ j → j < n → t.axioms.length + j ∉ l) → needsBy t n l = needsBy t m l
  | 0, m, h, _ => by rw [Nat.le_zero.mp h]
  | n + 1, m, h, k => by
    by_cases e : m = n + 1
    · rw [e]
    · have hn : t.axioms.length + n ∉ l := k n (by omega) (by omega)
      have ih := needsBy_skip t l n m (by omega) fun j h1 h2 => k j h1 (by omega)
      rw [← ih]
      conv => lhs; unfold needsBy
      cases t.rows[n]? with
      | none => rfl
      | some r => simp only [List.contains_iff_mem, hn, if_false]
theorem needsBy_row {t : Text_} {l : List Nat} {n : Nat} {r : Row} (h : t.rows[n]? = some r) : needsBy t (n + 1) l = if l.contains (t.axioms.length + n) = true then needsBy t n (l ++ [r.i, r.j]) else needsBy t n l := by
  conv => lhs; unfold needsBy
  rw [h]
/-- all that is named is below -/
theorem needsBy_lt (t : Text_) {c : Nat} (hr : ∀ (k : Nat) (r : Row), t.rows[k]? = some r → r.i < c ∧ r.j < c) : ∀ (n : Nat) (l : List Nat), (∀ x ∈ l, x < c) → ∀ x ∈ needsBy t n l, x < c
  | 0, l, h => h
  | n + 1, l, h => by
    unfold needsBy
    cases e : t.rows[n]? with
    | none => exact needsBy_lt t hr n l h
    | some r =>
      simp only
      split
      · refine needsBy_lt t hr n _ fun x hx => ?_
        rcases List.mem_append.mp hx with hx | hx
        · exact h x hx
        · obtain ⟨h1, h2⟩ := hr n r e
          simp only [List.mem_cons, List.not_mem_nil, or_false] at hx
          rcases hx with hx | hx <;> omega
      · exact needsBy_lt t hr n l h
/-- a key, in its place or behind -/
def addN (ks : List Nat) (x : Nat) : List Nat := if ks.contains x = true then ks else ks ++ [x]
theorem mem_addN {ks : List Nat} {x y : Nat} : y ∈ addN ks x ↔ y ∈ ks ∨ y = x := by
  unfold addN
  split
  · rename_i h
    constructor
    · exact fun h => .inl h
    · rintro (h | h)
      · exact h
      · rw [h]; exact List.contains_iff_mem.mp ‹_›
  · simp
theorem addN_nodup {ks : List Nat} (h : ks.Nodup) (x : Nat) : (addN ks x).Nodup := by
  unfold addN
  split
  · exact h
  · rename_i hc
    rw [List.nodup_append]
    exact ⟨h, by simp, fun a ha b hb => by rw [List.mem_singleton.mp hb]; exact fun e => hc (List.contains_iff_mem.mpr (e ▸ ha))⟩
/-- sorted, it is the specification's list -/
theorem sorted_is {ks l : List Nat} {ys : List Int} {c : Nat} (hp : ys.Perm (ks.map fun (k : Nat) => (k : Int))) (hs : ys.Pairwise (· ≤ ·)) (hn : ks.Nodup) (hm : ∀ x, x ∈ ks ↔ x ∈ l) (hc : ∀ x ∈ l, x < c) :
    ys = ((List.range c).filter fun k => l.contains k).map fun (k : Nat) => (k : Int) := by
  have h1 : ks.Perm ((List.range c).filter fun k => l.contains k) := by
    rw [List.perm_iff_count]
    intro a
    have hd : ((List.range c).filter fun k => l.contains k).Nodup := List.nodup_range.filter _
    rw [List.Nodup.count hn, List.Nodup.count hd]
    have : a ∈ ks ↔ a ∈ (List.range c).filter fun k => l.contains k := by
      rw [List.mem_filter, List.mem_range, List.contains_iff_mem, hm]
      exact ⟨fun h => ⟨hc a h, h⟩, fun h => h.2⟩
    simp only [this]
  have h2 := hp.trans (h1.map fun (k : Nat) => (k : Int))
  have h3 : (((List.range c).filter fun k => l.contains k).map fun (k : Nat) => (k : Int)).Pairwise (· ≤ ·) := by
    rw [List.pairwise_map]
    refine List.Pairwise.filter _ ?_
    refine List.Pairwise.imp ?_ (List.pairwise_lt_range (n := c))
    intro a b h
    omega
  exact List.Perm.eq_of_pairwise (fun a b _ _ h1 h2 => by omega) hs h3 h2
end Dr

namespace Dr
open Vapcma VapcmBase

/-! ## A list of calls -/
/-- one call: its number, its whole numbers, its bytes -/
inductive CallIs : List Int → List (List Int) → List Int → Prop
  | load (row t : List Int) : CallIs (0 :: (row.length : Int) :: (row ++ t)) [[0], row] t
  | none (p : Int) (h : p = 1 ∨ p = 8) (t : List Int) : CallIs (p :: t) [[p]] t
  | one (p x : Int) (h : p = 2 ∨ p = 3 ∨ p = 7) (t : List Int) : CallIs (p :: x :: t) [[p, x]] t
  | two (p x y : Int) (h : p = 4 ∨ p = 5 ∨ p = 6) (t : List Int) : CallIs (p :: x :: y :: t) [[p, x, y]] t
theorem whole_id (c : List (List Int)) : PyVapcma.whole c = c := by
  unfold PyVapcma.whole
  split <;> rfl
theorem call_is {l t : List Int} {c : List (List Int)} (h : PyFlat.call PyVapcma.shape l = some (c, t)) : CallIs l c t := by
  cases l with
  | nil => simp [PyFlat.call] at h
  | cons p r =>
    unfold PyFlat.call at h
    simp only at h
    cases hs : PyVapcma.shape p with
    | none => rw [hs] at h; cases h
    | some nk =>
      obtain ⟨n, k⟩ := nk
      rw [hs] at h
      simp only at h
      split at h
      · cases h
      · rename_i hl
        have key : (p = 0 ∧ n = 0 ∧ k = 1) ∨ ((p = 1 ∨ p = 8) ∧ n = 0 ∧ k = 0) ∨ ((p = 2 ∨ p = 3 ∨ p = 7) ∧ n = 1 ∧ k = 0) ∨ ((p = 4 ∨ p = 5 ∨ p = 6) ∧ n = 2 ∧ k = 0) := by
          unfold PyVapcma.shape at hs
          repeat' split at hs
          all_goals first
            | (cases hs; done)
            | (have e := Option.some.inj hs; cases e; simp_all)
        rcases key with ⟨rfl, rfl, rfl⟩ | ⟨hp, rfl, rfl⟩ | ⟨hp, rfl, rfl⟩ | ⟨hp, rfl, rfl⟩
        · unfold PyFlat.rows at h
          rw [List.drop_zero] at h
          cases r with
          | nil => simp [PyFlat.row] at h
          | cons m r =>
            unfold PyFlat.row at h
            simp only at h
            by_cases hm : 0 ≤ m ∧ m.toNat ≤ r.length
            · rw [if_pos hm] at h
              simp only [PyFlat.rows] at h
              cases h
              have e1 : (m : Int) = ((r.take m.toNat).length : Int) := by rw [List.length_take]; omega
              have e2 : r = r.take m.toNat ++ r.drop m.toNat := (List.take_append_drop _ _).symm
              have z := CallIs.load (r.take m.toNat) (r.drop m.toNat)
              rw [← e2, ← e1] at z
              simpa using z
            · rw [if_neg hm] at h
              cases h
        · simp only [PyFlat.rows, List.drop_zero, List.take_zero] at h
          cases h
          exact .none p hp _
        · cases r with
          | nil => simp at hl
          | cons x r =>
            simp only [PyFlat.rows, List.drop_succ_cons, List.drop_zero, List.take_succ_cons, List.take_zero] at h
            cases h
            exact .one p x hp _
        · cases r with
          | nil => simp at hl
          | cons x r =>
            cases r with
            | nil => simp at hl
            | cons y r =>
              simp only [PyFlat.rows, List.drop_succ_cons, List.drop_zero, List.take_succ_cons, List.take_zero] at h
              cases h
              exact .two p x y hp _
theorem calls_step {f : Nat} {l : List Int} {cs : List (List (List Int))} (h : PyFlat.calls PyVapcma.shape f l = some cs) (ne : l ≠ []) : ∃ c t cs' f', cs = c :: cs' ∧ CallIs l c t ∧ PyFlat.calls PyVapcma.shape f' t = some cs' := by
  cases l with
  | nil => exact absurd rfl ne
  | cons p r =>
    cases f with
    | zero => simp [PyFlat.calls] at h
    | succ f =>
      unfold PyFlat.calls at h
      cases hc : PyFlat.call PyVapcma.shape (p :: r) with
      | none => rw [hc] at h; cases h
      | some ct =>
        obtain ⟨c, t⟩ := ct
        rw [hc] at h
        simp only at h
        cases hr : PyFlat.calls PyVapcma.shape f t with
        | none => rw [hr] at h; cases h
        | some cs' =>
          rw [hr] at h
          cases h
          exact ⟨c, t, cs', f, rfl, call_is hc, hr⟩
theorem calls_nil {f : Nat} {cs : List (List (List Int))} (h : PyFlat.calls PyVapcma.shape f [] = some cs) : cs = [] := by
  cases f <;> · unfold PyFlat.calls at h; exact (Option.some.inj h).symm
theorem told_cons (a : List Int) (r : List (List Int)) : PyFlat.told (a :: r) = (a.length : Int) :: (a ++ PyFlat.told r) := by simp [PyFlat.told]
/-- what is handed in, in the words of the loop -/
theorem asked_gives {l : List Int} (h : PyVapcma.answers_asked l = true) : ∃ cs, PyFlat.calls PyVapcma.shape l.length l = some cs ∧ cs.length ≤ 60 ∧ (∀ row, [[0], row] ∈ cs → row.length ≤ 8192 ∧ ∀ z ∈ row, 0 ≤ z ∧ z ≤ 255) ∧ PyVapcma.answers l = PyFlat.told (PyFlat.played VapcmaNeutral.step VapcmaNeutral.start cs) ∧ (PyVapcma.answers l).length ≤ 10000000 := by
  unfold PyVapcma.answers_asked at h
  cases hc : PyFlat.calls PyVapcma.shape l.length l with
  | none => rw [hc] at h; cases h
  | some cs =>
    rw [hc] at h
    simp only [Bool.and_eq_true, PyFlat.atMost, PyFlat.short, decide_eq_true_eq] at h
    obtain ⟨⟨⟨⟨h1, h2⟩, h3⟩, h4⟩, h5⟩ := h
    refine ⟨cs, rfl, h2, ?_, ?_, h5⟩
    · intro row hr
      unfold PyInside.calls at h3
      have := List.all_eq_true.mp h3 _ hr
      simp only [PyInside.call, PyVapcma.bound, PyInside.lists, PyInside.each, Bool.and_eq_true, decide_eq_true_eq, List.all_eq_true, PyInside.within, if_true, Bool.true_and] at this
      exact ⟨this.1.1.2, fun z hz => this.1.2 z hz⟩
    · unfold PyVapcma.answers PyVapcma.calls
      rw [hc]
      have : cs.map PyVapcma.whole = cs := by
        rw [show PyVapcma.whole = id from funext whole_id, List.map_id]
      simp only [this]
theorem bytesOf_back {row : List Int} (h : ∀ z ∈ row, 0 ≤ z ∧ z ≤ 255) : row = (VapcmaNeutral.bytesOf row).map fun b => (b.toNat : Int) := by
  unfold VapcmaNeutral.bytesOf
  rw [List.map_map]
  conv => lhs; rw [← List.map_id row]
  refine List.map_congr_left fun z hz => ?_
  obtain ⟨h1, h2⟩ := h z hz
  simp only [Function.comp, id]
  rw [UInt8.toNat_ofNat_of_lt' (by show z.toNat < 256; omega)]
  omega
theorem step_load {s : Vapcma.Obj} {row : List Int} (h : ∀ z ∈ row, 0 ≤ z ∧ z ≤ 255) : VapcmaNeutral.step s [[0], row] = ((Vapcma.step s (.load (VapcmaNeutral.bytesOf row))).1, VapcmaNeutral.encode (Vapcma.step s (.load (VapcmaNeutral.bytesOf row))).2) := by
  have hb : NeutralIO.bytes row = true := by
    unfold NeutralIO.bytes
    refine List.all_eq_true.mpr fun z hz => ?_
    obtain ⟨h1, h2⟩ := h z hz
    simp [h1, h2]
  have e : VapcmaNeutral.callOf [[0], row] = some (.load (VapcmaNeutral.bytesOf row)) := by
    show (if NeutralIO.bytes row = true then _ else _) = _
    rw [if_pos hb]
  unfold VapcmaNeutral.step
  rw [e]
end Dr

namespace Dr
open PySem PySem.Spec PyProof.Rows L2

/-- the i-th statement of the program's top -/
def top (i : Nat) : Stmt := PySem.Challenge.pw_detachedrows_s01_answers.main.body.getD i (.Pass ⟨0, 0, 0, 0⟩)
/-- a def that callers may use -/
def HasDef (P : Program) (w : World) (K : PySem.W.Frag) (mg : Str → Option Value) (base : Heap) (X : CXT) (k : Nat) (x : Str) (ps : List Str) (sp : Sp) : Prop :=
  ∃ f fd, mg x = some (.ref f) ∧ PySem.W.keepIn K (.ref f) = true ∧ Binds K fd ps [] ∧ FnOk P w K mg base X k f fd ps sp
def HasMeth (P : Program) (w : World) (K : PySem.W.Frag) (mg : Str → Option Value) (base : Heap) (X : CXT) (k : Nat) (C : Addr) (m : Str) (ps : List Str) (sp : Sp) : Prop :=
  ∃ f fd, Meth K C m f ∧ Binds K fd ps [] ∧ FnOk P w K mg base X k f fd ps sp
def HasMake (P : Program) (w : World) (K : PySem.W.Frag) (mg : Str → Option Value) (base : Heap) (X : CXT) (k : Nat) (x : Str) (C : Addr) (ps : List Str) (sp : Sp) : Prop :=
  ∃ f fd, Mk K C f ∧ mg x = some (.ref C) ∧ Binds K fd ps [] ∧ FnOk P w K mg base X k f fd ps sp

/-! ### heaps -/
/-- all but what S names stands -/
def Fr (S : Addr → Prop) (H H' : Hp) : Prop := ∀ b o, H b = some o → ¬ S b → H' b = some o
theorem Fr.refl (S : Addr → Prop) (H : Hp) : Fr S H H := fun _ _ h _ => h
theorem Fr.trans {S : Addr → Prop} {H H1 H2 : Hp} (a : Fr S H H1) (b : Fr S H1 H2) : Fr S H H2 := fun c o h n => b c o (a c o h n) n
theorem Fr.mono {S T : Addr → Prop} {H H' : Hp} (a : Fr S H H') (h : ∀ b, S b → T b) : Fr T H H' := fun c o e n => a c o e fun s => n (h c s)
theorem Fr.of {S : Addr → Prop} {H H' : Hp} (h : Same H H') : Fr S H H' := fun b o e _ => h b o e
theorem Fr.upd {S : Addr → Prop} {H H' : Hp} {a : Addr} {o : HO} (h : Fr S H H') (ha : S a ∨ H a = none) : Fr S H (upd H' a o) := fun b u e n => by
  have ne : b ≠ a := by
    rintro rfl
    rcases ha with ha | ha
    · exact n ha
    · rw [e] at ha; cases ha
  rw [upd_ne ne]
  exact h b u e n
theorem same_new {H : Hp} {p : Addr} {o : HO} (h : H p = none) : Same H (upd H p o) := fun a u e => by
  rw [upd_ne (ne_of_none e h)]
  exact e
theorem Same.fr {S : Addr → Prop} {H H' : Hp} (h : Same H H') : Fr S H H' := fun b o e _ => h b o e
theorem iteT' {c : Bool} {A B : Prop} (hc : c = true) (h : A) : if c = true then A else B := by rw [if_pos hc]; exact h
theorem iteF' {c : Bool} {A B : Prop} (hc : c = false) (h : B) : if c = true then A else B := by rw [hc, if_neg Bool.false_ne_true]; exact h
/-- what the top has written -/
structure Lay where
  Net : Addr
  Held : Addr
  Cursor : Addr
  Draft : Addr
  Desk : Addr
  Fault : Addr
  FaultI : Addr
  KEYWORDS : Addr
  GIVEN : Addr
structure Txt (K : PySem.W.Frag) (mg : Str → Option Value) (L : Lay) : Prop where
  cNet : Cls K L.Net
  nNet_heads : NoAttr K L.Net "heads"
  nNet_parts : NoAttr K L.Net "parts"
  nNet_stands : NoAttr K L.Net "stands"
  cHeld : Cls K L.Held
  nHeld_numbers : NoAttr K L.Held "numbers"
  nHeld_formulas : NoAttr K L.Held "formulas"
  nHeld_rows : NoAttr K L.Held "rows"
  nHeld_goals : NoAttr K L.Held "goals"
  cCursor : Cls K L.Cursor
  nCursor_tokens : NoAttr K L.Cursor "tokens"
  nCursor_at : NoAttr K L.Cursor "at"
  cDraft : Cls K L.Draft
  nDraft_signs : NoAttr K L.Draft "signs"
  nDraft_unknowns : NoAttr K L.Draft "unknowns"
  nDraft_around : NoAttr K L.Draft "around"
  nDraft_brackets : NoAttr K L.Draft "brackets"
  nDraft_ended : NoAttr K L.Draft "ended"
  nDraft_begin : NoAttr K L.Draft "begin"
  cDesk : Cls K L.Desk
  nDesk_held : NoAttr K L.Desk "held"
  vIMPLIES : ∃ t, mg "IMPLIES" = some (.int 0 t)
  vDENIES : ∃ t, mg "DENIES" = some (.int 1 t)
  vFIRST_UNKNOWN : ∃ t, mg "FIRST_UNKNOWN" = some (.int 2 t)
  vMOST_FITTED : ∃ t, mg "MOST_FITTED" = some (.int 1000 t)
  vMOST_DETACHED : ∃ t, mg "MOST_DETACHED" = some (.int 60 t)
  vLONGEST_NAME : ∃ t, mg "LONGEST_NAME" = some (.int 16 t)
  vGREATEST_NUMBER : ∃ t, mg "GREATEST_NUMBER" = some (.int 1000000000 t)
  vLONGEST_NUMBER : ∃ t, mg "LONGEST_NUMBER" = some (.int 10 t)
  vMOST_SIGNS : ∃ t, mg "MOST_SIGNS" = some (.int 40 t)
  vMOST_AROUND : ∃ t, mg "MOST_AROUND" = some (.int 40 t)
  vMOST_BYTES : ∃ t, mg "MOST_BYTES" = some (.int 4096 t)
  vMOST_AXIOMS : ∃ t, mg "MOST_AXIOMS" = some (.int 6 t)
  vMOST_ROWS : ∃ t, mg "MOST_ROWS" = some (.int 24 t)
  vMOST_GOALS : ∃ t, mg "MOST_GOALS" = some (.int 4 t)
  vLOAD : ∃ t, mg "LOAD" = some (.int 0 t)
  vSHOWN : ∃ t, mg "SHOWN" = some (.int 1 t)
  vFORMULA : ∃ t, mg "FORMULA" = some (.int 2 t)
  vSIZES : ∃ t, mg "SIZES" = some (.int 3 t)
  vPROVES : ∃ t, mg "PROVES" = some (.int 4 t)
  vDETACH : ∃ t, mg "DETACH" = some (.int 5 t)
  vCOMPARE : ∃ t, mg "COMPARE" = some (.int 6 t)
  vNEEDS : ∃ t, mg "NEEDS" = some (.int 7 t)
  vBLANKS : ∃ t, mg "BLANKS" = some (.str (SX.S blanksN) t)
  vREMARK : ∃ t, mg "REMARK" = some (.str (SX.S [35]) t)
  vSIGNS : ∃ t, mg "SIGNS" = some (.str (SX.S signsN) t)
  vDIGITS : ∃ t, mg "DIGITS" = some (.str (SX.S digitsN) t)
  vLETTERS : ∃ t, mg "LETTERS" = some (.str (SX.S lettersN) t)
  vSTRANGE : ∃ t, mg "STRANGE" = some (.str (SX.S [63]) t)
  vEND : ∃ t, mg "END" = some (.str (SX.S []) t)
  vKEYWORDS : mg "KEYWORDS" = some (.ref L.KEYWORDS) ∧ ∀ H, SqT K H L.KEYWORDS [.str "axiom", .str "row", .str "goal"]
  n_len : mg "len" = none
  n_ord : mg "ord" = none
  n_int : mg "int" = none
  n_list : mg "list" = none
  n_sorted : mg "sorted" = none
  n_max : mg "max" = none
  n_reversed : mg "reversed" = none
  n_zip : mg "zip" = none
  n_range : mg "range" = none
  n_enumerate : mg "enumerate" = none
theorem pe_gi {X : Cx} {x : Str} {i : Int} {t : Tok} {pos : Pos} (hm : X.mg x = some (.int i t)) (hg : Gl X x := by rfl) (hd : (x == ("__debug__" : Str)) = false := by decide) : PE X (.Name x pos) (tC (.int i)) := pe_glob hg hm ⟨_, rfl⟩ hd
theorem pe_gs {X : Cx} {x : Str} {i : Str} {t : Tok} {pos : Pos} (hm : X.mg x = some (.str i t)) (hg : Gl X x := by rfl) (hd : (x == ("__debug__" : Str)) = false := by decide) : PE X (.Name x pos) (tC (.str i)) := pe_glob hg hm ⟨_, rfl⟩ hd
theorem pe_gr {X : Cx} {x : Str} {i : Addr} {pos : Pos} (hm : X.mg x = some (.ref i)) (hg : Gl X x := by rfl) (hd : (x == ("__debug__" : Str)) = false := by decide) : PE X (.Name x pos) (tC (.ref i)) := pe_glob (v := .ref i) hg hm rfl hd
abbrev iv (n : Nat) : V := V.int (n : Int)
/-- a formula as a list of signs -/
def encV (f : Vapcma.Form) : List V := (enc f).map iv
end Dr

namespace Dr
open PySem PySem.Spec PyProof.Rows L2
section
variable {P : Program} {w : World} {K : PySem.W.Frag} {mg : Str → Option Value} {base : Heap} {L : Lay}
/-! ## formulas.py -/
def sp_unknown_sign : Sp := fun vs H Q _ => ∃ i : Int, vs = [.int i] ∧ Q (.int (2 + i)) H
abbrev s_unknown_sign : Stmt := top 6
theorem sc_unknown_sign : FnScope ["number"] ["number"] (defScope s_unknown_sign) := ⟨rfl, rfl, rfl, by decide +kernel, rfl, by decide +kernel, by decide +kernel⟩
theorem ok_unknown_sign {f : Addr} {fd : FuncData} (F : Fun K "unknown_sign" "unknown_sign" s_unknown_sign f fd) (T : Txt K mg L) : FnOk P w K mg base CX0 1 f fd ["number"] sp_unknown_sign := by
  refine F.ok sc_unknown_sign (fun vs H Q E h => ?_) (fun cdv A outer s H vs Q E hr h => ?_)
  · obtain ⟨i, rfl, _⟩ := h
    rfl
  · obtain ⟨t, g_FIRST_UNKNOWN⟩ := T.vFIRST_UNKNOWN
    refine ⟨_, pss_one (ps_ret (pe_op op_add (pe_gi g_FIRST_UNKNOWN) (pv 0))), ?_⟩
    obtain ⟨i, rfl, q⟩ := h
    exact ⟨_, rfl, _, _, rfl, rfl, q⟩
def sp_is_unknown : Sp := fun vs H Q _ => ∃ i : Int, vs = [.int i] ∧ Q (.bl (decide (2 ≤ i))) H
abbrev s_is_unknown : Stmt := top 7
theorem sc_is_unknown : FnScope ["sign"] ["sign"] (defScope s_is_unknown) := ⟨rfl, rfl, rfl, by decide +kernel, rfl, by decide +kernel, by decide +kernel⟩
theorem ok_is_unknown {f : Addr} {fd : FuncData} (F : Fun K "is_unknown" "is_unknown" s_is_unknown f fd) (T : Txt K mg L) : FnOk P w K mg base CX0 1 f fd ["sign"] sp_is_unknown := by
  refine F.ok sc_is_unknown (fun vs H Q E h => ?_) (fun cdv A outer s H vs Q E hr h => ?_)
  · obtain ⟨i, rfl, _⟩ := h
    rfl
  · obtain ⟨t, g_FIRST_UNKNOWN⟩ := T.vFIRST_UNKNOWN
    refine ⟨_, pss_one (ps_ret (pe_cmpR op_ge (pv 0) (pe_gi g_FIRST_UNKNOWN) (nomark _))), ?_⟩
    obtain ⟨i, rfl, q⟩ := h
    exact ⟨_, rfl, _, _, rfl, rfl, q⟩
/-! ### told -/
def sg (s : Nat) : List Int := if s = 0 then [1] else if s = 1 then [2] else [0, (s : Int) - 2]
theorem sg_enc : ∀ f : Vapcma.Form, (enc f).flatMap sg = Vapcma.nats (Vapcma.code f)
  | .var v => by
    have h1 : ¬ v + 2 = 0 := by omega
    have h2 : ¬ v + 2 = 1 := by omega
    simp [enc, sg, Vapcma.code, Vapcma.nats, h1, h2]
  | .imp a b => by
    simp only [enc, List.flatMap_cons, List.flatMap_append, sg_enc a, sg_enc b, Vapcma.code, Vapcma.nats, List.map_cons, List.map_append]
    rfl
  | .neg a => by
    simp only [enc, List.flatMap_cons, sg_enc a, Vapcma.code, Vapcma.nats, List.map_cons]
    rfl
theorem sg_len (l : List Nat) : (l.flatMap sg).length ≤ 2 * l.length := by
  induction l with
  | nil => simp
  | cons a l ih =>
    rw [List.flatMap_cons, List.length_append, List.length_cons]
    have : (sg a).length ≤ 2 := by
      unfold sg
      split
      · simp
      · split <;> simp
    omega
def sp_told (K : PySem.W.Frag) : Sp := fun vs H Q _ => ∃ (a : Addr) (f : Vapcma.Form), vs = [.ref a] ∧ SqL K H a (encV f) ∧ Vapcma.size f ≤ 100 ∧
  ∀ (H' : Hp) (p : Addr), Same H H' → H p = none → H' p = some (.lst (((Vapcma.size f : Int) :: Vapcma.nats (Vapcma.code f)).map V.int)) → Q (.ref p) H'
abbrev s_told : Stmt := top 8
theorem sc_told : FnScope ["formula", "numbers", "sign"] ["formula"] (defScope s_told) := ⟨rfl, rfl, rfl, by decide +kernel, rfl, by decide +kernel, by decide +kernel⟩
theorem take_succ' {α : Type} {l : List α} {i : Nat} {x : α} (h : l[i]? = some x) : l.take (i + 1) = l.take i ++ [x] := by
  rw [List.take_add_one, h]
  rfl
theorem get_map {α : Type} {l : List α} {i : Nat} {g : α → V} {x : V} (h : (l.map g)[i]? = some x) : ∃ y, l[i]? = some y ∧ x = g y := by
  rw [List.getElem?_map] at h
  cases e : l[i]? with
  | none => rw [e] at h; cases h
  | some y =>
    rw [e] at h
    exact ⟨y, rfl, (Option.some.inj h).symm⟩
theorem ok_told {f : Addr} {fd : FuncData} (F : Fun K "told" "told" s_told f fd) (T : Txt K mg L) : FnOk P w K mg base CX0 1 f fd ["formula"] (sp_told K) := by
  refine F.ok sc_told (fun vs H Q E h => ?_) (fun cdv A outer s H vs Q E hr h => ?_)
  · obtain ⟨a, f, rfl, _⟩ := h
    rfl
  · obtain ⟨t0, g_IMPLIES⟩ := T.vIMPLIES
    obtain ⟨t1, g_DENIES⟩ := T.vDENIES
    obtain ⟨t2, g_FIRST_UNKNOWN⟩ := T.vFIRST_UNKNOWN
    have n_len := T.n_len
    refine ⟨_, pss_cons (ps_set (i := 1) sc_told.nd rfl (Or.inl rfl) (pe_lst (pa_cons (pe_callB call_len_seq (by rfl) n_len PySem.boot_len (pa_cons (pv 0) pa_nil)) pa_nil)))
      (pss_cons (ps_for PassesOwn.never rfl (pi_list (pv 0)) (pg_name (i := 2) sc_told.nd rfl (Or.inl rfl))
        (pss_one (ps_if (pt_cmpR op_eq (pv 2) (pe_gi g_IMPLIES) (nomark _))
            (pss_one (ps_expr (pe_bm PySem.F.plainAttrs_list PySem.F.slot_list_append PySem.F.type_list_append mt_append (pv 1) (pa_cons pe_int pa_nil))))
            (pss_one (ps_if (pt_cmpR op_eq (pv 2) (pe_gi g_DENIES) (nomark _))
                (pss_one (ps_expr (pe_bm PySem.F.plainAttrs_list PySem.F.slot_list_append PySem.F.type_list_append mt_append (pv 1) (pa_cons pe_int pa_nil))))
                (pss_one (ps_expr (pe_bm PySem.F.plainAttrs_list PySem.F.slot_list_extend PySem.F.type_list_extend mt_extend (pv 1) (pa_cons (pe_lst (pa_cons pe_int (pa_cons (pe_op op_sub (pv 2) (pe_gi g_FIRST_UNKNOWN)) pa_nil))) pa_nil)))))))))
      (pss_one (ps_ret (pv 1)))), ?_⟩
    obtain ⟨a, f, rfl, hs, hz, k⟩ := h
    have hl : (encV f).length = Vapcma.size f := by rw [encV, List.length_map, enc_length]
    refine ⟨_, rfl, a, _, rfl, .inl hs, (by show 1 ≤ sizeLine; decide), fun p np => ?_⟩
    refine ⟨_, rfl, a, rfl, ⟨_, (same_new np).seq hs⟩, for_list (K := K) (a := a) (xs := encV f)
      (fun i σ H' => ∃ v : Option V, σ = [some (.ref a), some (.ref p), v] ∧ Same H H' ∧ H' p = some (.lst (((Vapcma.size f : Int) :: ((enc f).take i).flatMap sg).map V.int)))
      ⟨none, rfl, same_new np, ?_⟩ (fun i σ H' _ ⟨_, _, s5, _⟩ => s5.seq hs) ?_ ?_⟩
    · rw [upd_same]
      simp [hl]
    · rintro i x σ H' hi ⟨v, rfl, s5, hp⟩
      obtain ⟨y, hy, rfl⟩ := get_map hi
      have hlen : (((Vapcma.size f : Int) :: ((enc f).take i).flatMap sg).map V.int).length + 2 < sizeLine := by
        have h1 := sg_len ((enc f).take i)
        have h2 := enc_length f
        refine Nat.lt_of_le_of_lt ?_ (by decide : 1000 < sizeLine)
        simp only [List.length_map, List.length_cons]
        rw [List.length_take] at h1
        omega
      refine ⟨_, rfl, rfl, _, rfl, ?_⟩
      refine ite2 (fun c => ?_) (fun c => ?_)
      · have c : y = 0 := by have := V.int.inj (of_decide_eq_true c); omega
        refine ⟨_, rfl, .inl ⟨rfl, _, SqL.of hp⟩, p, _, _, rfl, rfl, hp, (by omega), ?_⟩
        refine ⟨_, rfl, fun b o e => by rw [upd_ne (ne_of_none e np)]; exact s5 b o e, ?_⟩
        rw [upd_same, take_succ' hy]
        simp [sg, c]
      · refine ⟨_, rfl, rfl, _, rfl, ?_⟩
        have c : ¬ y = 0 := by simpa using c
        refine ite2 (fun d => ?_) (fun d => ?_)
        · have d : y = 1 := by have := V.int.inj (of_decide_eq_true d); omega
          refine ⟨_, rfl, .inl ⟨rfl, _, SqL.of hp⟩, p, _, _, rfl, rfl, hp, (by omega), ?_⟩
          refine ⟨_, rfl, fun b o e => by rw [upd_ne (ne_of_none e np)]; exact s5 b o e, ?_⟩
          rw [upd_same, take_succ' hy]
          simp [sg, d]
        · have d : ¬ y = 1 := by
            intro e
            apply d
            simp [e]
          refine ⟨_, rfl, .inl ⟨rfl, _, SqL.of hp⟩, _, rfl, _, _, rfl, rfl, (by show 2 ≤ sizeLine; decide), fun q nq => ?_⟩
          have nqp : p ≠ q := ne_of_none hp nq
          refine ⟨p, q, _, _, rfl, rfl, by rw [upd_ne nqp]; exact hp, upd_same, ?_, ?_⟩
          · show _ + 2 ≤ _
            omega
          · refine ⟨_, rfl, fun b o e => ?_, ?_⟩
            · rw [upd_ne (ne_of_none e np), upd_ne (ne_of_none (s5 b o e) nq)]
              exact s5 b o e
            · rw [upd_same, take_succ' hy]
              simp [sg, c, d]
    · rintro σ H' ⟨v, rfl, s5, hp⟩
      refine ⟨_, rfl, k H' p s5 np ?_⟩
      rw [hp, hl, ← sg_enc, List.take_of_length_le (by rw [enc_length]; exact Nat.le_refl _)]
end
end Dr

namespace Dr
open PySem PySem.Spec PyProof.Rows L2
section
variable {P : Program} {w : World} {K : PySem.W.Frag} {mg : Str → Option Value} {base : Heap} {L : Lay}
/-! ### part_end -/
def sp_part_end (K : PySem.W.Frag) : Sp := fun vs H Q _ => ∃ (a : Addr) (pre post : List Nat) (t : Vapcma.Form), vs = [.ref a, iv pre.length] ∧ SqL K H a ((pre ++ (enc t ++ post)).map iv) ∧
  Q (iv (pre.length + (enc t).length)) H
abbrev s_part_end : Stmt := top 9
theorem sc_part_end : FnScope ["formula", "begin", "missing", "end"] ["formula", "begin"] (defScope s_part_end) := ⟨rfl, rfl, rfl, by decide +kernel, rfl, by decide +kernel, by decide +kernel⟩
theorem drop_cons_get {α : Type} {l : List α} {e : Nat} {x : α} {r : List α} (h : l.drop e = x :: r) : l[e]? = some x ∧ l.drop (e + 1) = r ∧ e < l.length := by
  have hl : e < l.length := by
    rcases Nat.lt_or_ge e l.length with h1 | h1
    · exact h1
    · rw [List.drop_of_length_le h1] at h; cases h
  rw [List.drop_eq_getElem_cons hl] at h
  refine ⟨?_, (List.cons.inj h).2, hl⟩
  rw [List.getElem?_eq_getElem hl, (List.cons.inj h).1]
theorem iv_at {l : List Nat} {e x : Nat} (h : l[e]? = some x) : atI (l.map iv) (e : Int) = some (iv x) := atI_nat (by rw [List.getElem?_map, h]; rfl)
theorem ok_part_end {f : Addr} {fd : FuncData} (F : Fun K "part_end" "part_end" s_part_end f fd) (T : Txt K mg L) (h_is_unknown : HasDef P w K mg base CX0 1 "is_unknown" ["sign"] sp_is_unknown) : FnOk P w K mg base CX0 2 f fd ["formula", "begin"] (sp_part_end K) := by
  refine F.ok sc_part_end (fun vs H Q E h => ?_) (fun cdv A outer s H vs Q E hr h => ?_)
  · obtain ⟨a, pre, post, t, rfl, _⟩ := h
    rfl
  · obtain ⟨t0, g_IMPLIES⟩ := T.vIMPLIES
    obtain ⟨f_is_unknown, fd_is_unknown, m_is_unknown, k_is_unknown, b_is_unknown, G_is_unknown⟩ := h_is_unknown
    refine ⟨_, pss_cons (ps_set (i := 2) sc_part_end.nd rfl (Or.inl rfl) pe_int)
      (pss_cons (ps_set (i := 3) sc_part_end.nd rfl (Or.inl rfl) (pv 1))
      (pss_cons (ps_while PassesOwn.never (pt_cmpR op_gt (pv 2) pe_int (nomark _))
        (pss_cons (ps_if (pt_cmpR op_eq (pe_ix ix_list (pv 0) (pv 3) (fun _ _ => rfl)) (pe_gi g_IMPLIES) (nomark _))
            (pss_one (ps_aug (i := 2) sc_part_end.nd rfl (.inl rfl) pe_int ip_add))
            (pss_one (ps_if (pt_val (pe_call G_is_unknown (hr.mono (by decide)) rfl m_is_unknown k_is_unknown b_is_unknown .nil pass0 (pa_cons (pe_ix ix_list (pv 0) (pv 3) (fun _ _ => rfl)) pa_nil)))
                (pss_one (ps_aug (i := 2) sc_part_end.nd rfl (.inl rfl) pe_int ip_sub))
                (pss_nil))))
          (pss_one (ps_aug (i := 3) sc_part_end.nd rfl (.inl rfl) pe_int ip_add))))
      (pss_one (ps_ret (pv 3))))), ?_⟩
    obtain ⟨a, pre, post, t, rfl, hs, q⟩ := h
    refine ⟨_, rfl, ?_⟩
    refine ⟨fun m σ H' => H' = H ∧ ∃ (ts : List Vapcma.Form) (e : Nat), σ = [some (.ref a), some (iv pre.length), some (iv ts.length), some (iv e)] ∧ (pre ++ (enc t ++ post)).drop e = flat ts ++ post ∧ e ≤ (pre ++ (enc t ++ post)).length ∧ m = (flat ts).length,
      ⟨_, rfl, [t], pre.length, rfl, by simp, by simp, rfl⟩, ?_⟩
    rintro m σ H' ⟨rfl, ts, e, rfl, hd, he, rfl⟩
    refine ⟨_, rfl, _, _, rfl, rfl, _, rfl, ?_⟩
    refine ite2 (fun c => ?_) (fun c => ?_)
    · have c : 0 < ts.length := by have := of_decide_eq_true c; omega
      refine ⟨fun σ' H2 => ∃ m', m' < (flat ts).length ∧ (H2 = H' ∧ ∃ (ts : List Vapcma.Form) (e : Nat), σ' = [some (.ref a), some (iv pre.length), some (iv ts.length), some (iv e)] ∧ (pre ++ (enc t ++ post)).drop e = flat ts ++ post ∧ e ≤ (pre ++ (enc t ++ post)).length ∧ m' = (flat ts).length), fun _ _ z => z, ?_⟩
      match ts, c, hd with
      | t1 :: r, _, hd =>
        cases t1 with
        | var v =>
          simp only [flat_cons, enc, List.cons_append, List.nil_append] at hd
          obtain ⟨h1, h2, h3⟩ := drop_cons_get hd
          refine ⟨_, rfl, _, rfl, a, _, _, _, rfl, rfl, hs, iv_at h1, rfl, _, rfl, ?_⟩
          refine iteF' (by simp; omega) ?_
          refine ⟨_, rfl, _, rfl, a, _, _, _, rfl, rfl, hs, iv_at h1, _, rfl, _, rfl, ?_⟩
          refine iteT' (by simp; omega) ?_
          refine ⟨_, rfl, _, _, rfl, rfl, _, rfl, _, _, rfl, rfl, ?_⟩
          refine ⟨(flat r).length, by simp [enc], rfl, r, e + 1, ?_, h2, h3, rfl⟩
          simp
        | imp x y =>
          simp only [flat_cons, enc, List.cons_append, List.nil_append] at hd
          obtain ⟨h1, h2, h3⟩ := drop_cons_get hd
          refine ⟨_, rfl, _, rfl, a, _, _, _, rfl, rfl, hs, iv_at h1, rfl, _, rfl, ?_⟩
          refine iteT' (by simp) ?_
          refine ⟨_, rfl, _, _, rfl, rfl, _, rfl, _, _, rfl, rfl, ?_⟩
          refine ⟨(flat (x :: y :: r)).length, by simp [enc], rfl, x :: y :: r, e + 1, ?_, ?_, h3, rfl⟩
          · simp
          · rw [h2]; simp
        | neg x =>
          simp only [flat_cons, enc, List.cons_append, List.nil_append] at hd
          obtain ⟨h1, h2, h3⟩ := drop_cons_get hd
          refine ⟨_, rfl, _, rfl, a, _, _, _, rfl, rfl, hs, iv_at h1, rfl, _, rfl, ?_⟩
          refine iteF' (by simp) ?_
          refine ⟨_, rfl, _, rfl, a, _, _, _, rfl, rfl, hs, iv_at h1, _, rfl, _, rfl, ?_⟩
          refine iteF' (by simp) ?_
          refine ⟨_, rfl, _, _, rfl, rfl, ?_⟩
          refine ⟨(flat (x :: r)).length, by simp [enc], rfl, x :: r, e + 1, ?_, ?_, h3, rfl⟩
          · simp
          · rw [h2]; simp
    · have c : ts = [] := by
        cases ts with
        | nil => rfl
        | cons x r => exact absurd (decide_eq_true (by simp)) c
      subst c
      refine ⟨_, rfl, ?_⟩
      have e2 : e = pre.length + (enc t).length := by
        have := congrArg List.length hd
        simp only [List.length_drop, List.length_append, flat_nil, List.nil_append] at this he
        omega
      rw [e2]
      exact q
end
end Dr

namespace Dr
open PySem PySem.Spec PyProof.Rows L2
open Vapcma (Form matchBy instanceOf)
/-! ### instances, part by part -/
def matchAll : List (Form × Form) → List (Nat × Form) → Bool
  | [], _ => true
  | (p, t) :: r, s => match matchBy p t s with
    | none => false
    | some s' => matchAll r s'
theorem matchAll_imp (a b c d : Form) (r : List (Form × Form)) (s : List (Nat × Form)) : matchAll ((.imp a b, .imp c d) :: r) s = matchAll ((a, c) :: (b, d) :: r) s := by
  simp only [matchAll, matchBy]
  cases matchBy a c s with
  | none => rfl
  | some s' => rfl
theorem matchAll_neg (a c : Form) (r : List (Form × Form)) (s : List (Nat × Form)) : matchAll ((.neg a, .neg c) :: r) s = matchAll ((a, c) :: r) s := rfl
theorem matchAll_var (v : Nat) (t : Form) (r : List (Form × Form)) (s : List (Nat × Form)) : matchAll ((.var v, t) :: r) s = match s.find? (fun x => x.1 == v) with
    | some x => if x.2 = t then matchAll r s else false
    | none => matchAll r (s ++ [(v, t)]) := by
  simp only [matchAll]
  have e : matchBy (.var v) t s = match s.find? (fun x => x.1 == v) with
    | some x => if x.2 = t then some s else none
    | none => some (s ++ [(v, t)]) := by cases t <;> rfl
  rw [e]
  cases s.find? (fun x => x.1 == v) with
  | none => rfl
  | some x =>
    simp only
    by_cases c : x.2 = t
    · rw [if_pos c, if_pos c]
    · rw [if_neg c, if_neg c]
theorem matchAll_start (p t : Form) : matchAll [(p, t)] [] = instanceOf p t := by
  simp only [matchAll, instanceOf]
  cases matchBy p t [] <;> rfl
/-- lists of whole numbers as data -/
def pd (l : List Nat) : PyData := .list ((l.map fun (n : Nat) => (n : Int)).map PyData.int)
theorem eqv_pd (l m : List Nat) : PyData.eqv (pd l) (pd m) = decide (l = m) := by
  show PyData.eqvAll _ _ = _
  induction l generalizing m with
  | nil => cases m <;> simp [PyData.eqvAll]
  | cons a l ih =>
    cases m with
    | nil => simp [PyData.eqvAll]
    | cons b m =>
      have := ih m
      simp only [List.map_cons, PyData.eqvAll, PyData.eqv] at this ⊢
      rw [this]
      by_cases h : a = b
      · subst h; simp
      · have : ((a : Int) == (b : Int)) = false := by
          rw [beq_eq_false_iff_ne]; omega
        simp [h, this]
theorem dp_pd {K : PySem.W.Frag} {H : Hp} {a : Addr} {l : List Nat} (h : SqL K H a (l.map iv)) : Dp K H (.ref a) (pd l) := by
  refine .lst h ?_
  clear h
  induction l with
  | nil => exact .nil
  | cons x l ih => exact .cons (.int _) ih
theorem shaped_pd (l : List Nat) : SeqAt.shaped (pd l) = true := PySem.W.ke_shaped_ints _
theorem cut_mid (pre m post : List Nat) : cutV ((pre ++ (m ++ post)).map iv) (some ((pre.length : Nat) : Int)) (some ((pre.length + m.length : Nat) : Int)) = m.map iv := by
  unfold cutV
  rw [HT.sIx_nat, HT.sIx_nat, List.length_map, List.length_append, List.length_append, ← List.map_drop, ← List.map_take]
  congr 1
  rw [Nat.min_eq_left (by omega), Nat.min_eq_left (by omega), List.drop_left, Nat.add_sub_cancel_left, List.take_left]
/-- the parts that are put so far, at their places -/
inductive PutIs (H : Hp) : List (Nat × Form) → List (Key × V) → Prop
  | nil : PutIs H [] []
  | cons {v : Nat} {t : Form} {q : Addr} {s : List (Nat × Form)} {kvs : List (Key × V)} (h : H q = some (.lst (encV t))) (r : PutIs H s kvs) : PutIs H ((v, t) :: s) ((Sum.inl ((v + 2 : Nat) : Int), .ref q) :: kvs)
theorem PutIs.same {H H' : Hp} (e : ∀ b xs, H b = some (.lst xs) → H' b = some (.lst xs)) {s : List (Nat × Form)} {kvs : List (Key × V)} (h : PutIs H s kvs) : PutIs H' s kvs := by
  induction h with
  | nil => exact .nil
  | cons h _ ih => exact .cons (e _ _ h) ih
theorem PutIs.snoc {H : Hp} {s : List (Nat × Form)} {kvs : List (Key × V)} (h : PutIs H s kvs) {v : Nat} {t : Form} {q : Addr} (hq : H q = some (.lst (encV t))) : PutIs H (s ++ [(v, t)]) (kvs ++ [(Sum.inl ((v + 2 : Nat) : Int), .ref q)]) := by
  induction h with
  | nil => exact .cons hq .nil
  | cons h _ ih => exact .cons h ih
theorem PutIs.length {H : Hp} {s : List (Nat × Form)} {kvs : List (Key × V)} (h : PutIs H s kvs) : kvs.length = s.length := by
  induction h with
  | nil => rfl
  | cons h _ ih => simp [ih]
theorem PutIs.val {H : Hp} {s : List (Nat × Form)} {kvs : List (Key × V)} (h : PutIs H s kvs) (v : Nat) :
    match s.find? (fun x => x.1 == v) with
    | some x => ∃ q, valV kvs (Sum.inl ((v + 2 : Nat) : Int)) = some (.ref q) ∧ H q = some (.lst (encV x.2))
    | none => valV kvs (Sum.inl ((v + 2 : Nat) : Int)) = none := by
  induction h with
  | nil => rfl
  | @cons u t q s kvs h r ih =>
    by_cases e : u = v
    · subst e
      rw [List.find?_cons_of_pos (by simp)]
      exact ⟨q, valV_pos rfl, h⟩
    · have ne : ¬ (Sum.inl ((u + 2 : Nat) : Int) : Key) = Sum.inl ((v + 2 : Nat) : Int) := by
        intro z
        have := Sum.inl.inj z
        omega
      rw [List.find?_cons_of_neg (by simpa using e), valV_neg ne]
      exact ih
def sp_is_instance (K : PySem.W.Frag) : Sp := fun vs H Q _ => ∃ (a b : Addr) (t p : Form), vs = [.ref a, .ref b] ∧ SqL K H a (encV t) ∧ SqL K H b (encV p) ∧ Vapcma.size p ≤ 1000 ∧
  ∀ H', Same H H' → Q (.bl (instanceOf p t)) H'
section
variable {P : Program} {w : World} {K : PySem.W.Frag} {mg : Str → Option Value} {base : Heap} {L : Lay}
abbrev s_is_instance : Stmt := top 10
theorem sc_is_instance : FnScope ["formula", "pattern", "put", "at", "sign", "end", "part"] ["formula", "pattern"] (defScope s_is_instance) := ⟨rfl, rfl, rfl, by decide +kernel, rfl, by decide +kernel, by decide +kernel⟩
theorem enc_head (t : Form) : ∃ s r, enc t = s :: r ∧ (s < 2 ∨ ∃ v, t = .var v ∧ s = v + 2) := by
  cases t with
  | var v => exact ⟨_, _, rfl, .inr ⟨v, rfl, rfl⟩⟩
  | imp a b => exact ⟨_, _, rfl, .inl (by decide)⟩
  | neg a => exact ⟨_, _, rfl, .inl (by decide)⟩
theorem ok_is_instance {f : Addr} {fd : FuncData} (F : Fun K "is_instance" "is_instance" s_is_instance f fd) (T : Txt K mg L) (h_is_unknown : HasDef P w K mg base CX0 1 "is_unknown" ["sign"] sp_is_unknown)
    (h_part_end : HasDef P w K mg base CX0 2 "part_end" ["formula", "begin"] (sp_part_end K)) : FnOk P w K mg base CX0 3 f fd ["formula", "pattern"] (sp_is_instance K) := by
  refine F.ok sc_is_instance (fun vs H Q E h => ?_) (fun cdv A outer s H vs Q E hr h => ?_)
  · obtain ⟨a, b, t, p, rfl, _⟩ := h
    rfl
  · obtain ⟨f_is_unknown, fd_is_unknown, m_is_unknown, k_is_unknown, b_is_unknown, G_is_unknown⟩ := h_is_unknown
    obtain ⟨f_part_end, fd_part_end, m_part_end, k_part_end, b_part_end, G_part_end⟩ := h_part_end
    refine ⟨_, pss_cons (ps_set (i := 2) sc_is_instance.nd rfl (Or.inl rfl) pe_dnewK)
      (pss_cons (ps_set (i := 3) sc_is_instance.nd rfl (Or.inl rfl) pe_int)
      (pss_cons (ps_for PassesOwn.never rfl (pi_list (pv 1)) (pg_name (i := 4) sc_is_instance.nd rfl (Or.inl rfl))
        (pss_one (ps_if (pt_val (pe_call G_is_unknown (hr.mono (by decide)) rfl m_is_unknown k_is_unknown b_is_unknown .nil pass0 (pa_cons (pv 4) pa_nil)))
            (pss_cons (ps_set (i := 5) sc_is_instance.nd rfl (Or.inl rfl) (pe_call G_part_end (hr.mono (by decide)) rfl m_part_end k_part_end b_part_end .nil pass0 (pa_cons (pv 0) (pa_cons (pv 3) pa_nil))))
              (pss_cons (ps_set (i := 6) sc_is_instance.nd rfl (Or.inl rfl) (pe_slice sl_list (pv 0) (po_some (pv 3)) (po_some (pv 5))))
              (pss_cons (ps_if (pt_cmpR (op_neD hr.units) (pe_dsetd (pv 2) (pv 4) (pv 6) ⟨rfl, rfl, rfl, rfl⟩) (pv 6) (nomark _))
                (pss_one (ps_ret pe_bl))
                (pss_nil))
              (pss_one (ps_set (i := 3) sc_is_instance.nd rfl (Or.inl rfl) (pv 5))))))
            (pss_one (ps_if (pt_cmpR op_eq (pe_ix ix_list (pv 0) (pv 3) (fun _ _ => rfl)) (pv 4) (nomark _))
                (pss_one (ps_aug (i := 3) sc_is_instance.nd rfl (.inl rfl) pe_int ip_add))
                (pss_one (ps_ret pe_bl)))))))
      (pss_one (ps_ret pe_bl)))), ?_⟩
    obtain ⟨a, b, t, p, rfl, ha, hb, hz, q⟩ := h
    have hlp : (encV p).length = Vapcma.size p := by rw [encV, List.length_map, enc_length]
    intro d nd
    refine ⟨_, rfl, b, rfl, ⟨_, (same_new nd).seq hb⟩, for_list (K := K) (a := b) (xs := encV p)
      (fun i σ H' => ∃ (pairs : List (Form × Form)) (s : List (Nat × Form)) (kvs : List (Key × V)) (e : Nat) (v4 v5 v6 : Option V), σ = [some (.ref a), some (.ref b), some (.ref d), some (iv e), v4, v5, v6] ∧ Same H H' ∧ H' d = some (.dK kvs) ∧ PutIs H' s kvs ∧ s.length ≤ i ∧
        (enc p).drop i = flat (pairs.map Prod.fst) ∧ (enc t).drop e = flat (pairs.map Prod.snd) ∧ e ≤ (enc t).length ∧ matchAll pairs s = instanceOf p t)
      ⟨[(p, t)], [], [], 0, none, none, none, rfl, same_new nd, upd_same, .nil, by simp, by simp, by simp, by simp, matchAll_start p t⟩ (fun i σ H' _ ⟨_, _, _, _, _, _, _, _, s5, _⟩ => s5.seq hb) ?_ ?_⟩
    · rintro i x σ H' hi ⟨pairs, s, kvs, e, v4, v5, v6, rfl, s5, hd, hput, hsl, h1, h2, he, hm⟩
      have hik : i < (encV p).length := get_lt hi
      obtain ⟨y, hy, rfl⟩ := get_map hi
      match pairs, h1, h2, hm with
      | [], h1, _, _ =>
        exfalso
        have := congrArg List.length h1
        rw [List.length_drop, enc_length] at this
        simp at this
        omega
      | (p1, t1) :: rest, h1, h2, hm =>
        simp only [List.map_cons, flat_cons] at h1 h2
        obtain ⟨y', rp, ep, cases1⟩ := enc_head p1
        rw [ep, List.cons_append] at h1
        obtain ⟨g1, g2, g3⟩ := drop_cons_get h1
        obtain rfl : y = y' := Option.some.inj (hy.symm.trans g1)
        refine ⟨_, rfl, (y : Int), rfl, _, rfl, ?_⟩
        rcases cases1 with hlow | ⟨v, rfl, rfl⟩
        · -- an implication or a denial
          refine iteF' (by simp; omega) ?_
          obtain ⟨z, rt, et, cases2⟩ := enc_head t1
          rw [et, List.cons_append] at h2
          obtain ⟨k1, k2, k3⟩ := drop_cons_get h2
          refine ⟨_, rfl, _, rfl, a, _, _, _, rfl, rfl, s5.seq ha, iv_at k1, _, rfl, rfl, _, rfl, ?_⟩
          refine ite2 (fun c => ?_) (fun c => ?_)
          · have c : z = y := by have := V.int.inj (of_decide_eq_true c); omega
            subst c
            refine ⟨_, rfl, _, _, rfl, rfl, ?_⟩
            match p1, t1, ep, et with
            | .imp a1 b1, .imp c1 d1, ep, et =>
              rw [matchAll_imp] at hm
              have ep' := (List.cons.inj ep).2
              have et' := (List.cons.inj et).2
              refine ⟨(a1, c1) :: (b1, d1) :: rest, s, kvs, e + 1, some (iv z), v5, v6, ?_, s5, hd, hput, by omega, ?_, ?_, k3, hm⟩
              · simp
              · rw [g2, ← ep']; simp
              · rw [k2, ← et']; simp
            | .neg a1, .neg c1, ep, et =>
              rw [matchAll_neg] at hm
              have ep' := (List.cons.inj ep).2
              have et' := (List.cons.inj et).2
              refine ⟨(a1, c1) :: rest, s, kvs, e + 1, some (iv z), v5, v6, ?_, s5, hd, hput, by omega, ?_, ?_, k3, hm⟩
              · simp
              · rw [g2, ← ep']; simp
              · rw [k2, ← et']; simp
            | .imp _ _, .neg _, ep, et => simp only [enc, List.cons.injEq] at ep et; omega
            | .neg _, .imp _ _, ep, et => simp only [enc, List.cons.injEq] at ep et; omega
            | .var _, _, ep, et => simp only [enc, List.cons.injEq] at ep; omega
            | .imp _ _, .var _, ep, et => simp only [enc, List.cons.injEq] at ep et; omega
            | .neg _, .var _, ep, et => simp only [enc, List.cons.injEq] at ep et; omega
          · have c : z ≠ y := by
              intro e
              exact c (decide_eq_true (by rw [e]))
            have : instanceOf p t = false := by
              rw [← hm]
              match p1, t1, ep, et with
              | .imp a1 b1, .imp c1 d1, ep, et => simp only [enc, List.cons.injEq] at ep et; omega
              | .neg a1, .neg c1, ep, et => simp only [enc, List.cons.injEq] at ep et; omega
              | .imp _ _, .neg _, ep, et => rfl
              | .neg _, .imp _ _, ep, et => rfl
              | .var _, _, ep, et => simp only [enc, List.cons.injEq] at ep; omega
              | .imp _ _, .var _, ep, et => rfl
              | .neg _, .var _, ep, et => rfl
            have r := q H' s5
            rw [this] at r
            exact r
        · -- an unknown
          refine iteT' (by simp; omega) ?_
          have epost : rp = [] := by simp only [enc, List.cons.injEq] at ep; exact ep.2.symm
          rw [epost, List.nil_append] at g2
          have whole : enc t = (enc t).take e ++ (enc t1 ++ flat (rest.map Prod.snd)) := by
            rw [← h2, List.take_append_drop]
          have elen : ((enc t).take e).length = e := by rw [List.length_take]; omega
          have haW : SqL K H' a (((enc t).take e ++ (enc t1 ++ flat (rest.map Prod.snd))).map iv) := by
            rw [← whole]; exact s5.seq ha
          refine ⟨_, rfl, _, rfl, a, (enc t).take e, flat (rest.map Prod.snd), t1, ?_, haW, ?_⟩
          · rw [elen]; rfl
          rw [elen]
          refine ⟨_, rfl, _, rfl, (e : Int), rfl, _, rfl, ((e + (enc t1).length : Nat) : Int), rfl, a, _, rfl, haW, fun q1 nq => ?_⟩
          rw [show cutV ((((enc t).take e ++ (enc t1 ++ flat (rest.map Prod.snd)))).map iv) (some (e : Int)) (some ((e + (enc t1).length : Nat) : Int)) = encV t1 by
            have := cut_mid ((enc t).take e) (enc t1) (flat (rest.map Prod.snd))
            rw [elen] at this
            exact this]
          have nd1 : d ≠ q1 := ne_of_none hd nq
          have hd1 : upd H' q1 (.lst (encV t1)) d = some (.dK kvs) := by rw [upd_ne nd1]; exact hd
          have hkl : kvs.length < sizeLine := by
            rw [hput.length]
            refine Nat.lt_of_le_of_lt ?_ (by decide : 1000 < sizeLine)
            omega
          have keep1 : ∀ b xs, H' b = some (.lst xs) → upd H' q1 (.lst (encV t1)) b = some (.lst xs) := fun b xs e => by
            rw [upd_ne (ne_of_none e nq)]; exact e
          have hv := hput.val v
          have he2 : e + (enc t1).length ≤ (enc t).length := by
            have := congrArg List.length whole
            simp only [List.length_append, elen] at this
            omega
          have hdrop : (enc t).drop (e + (enc t1).length) = flat (rest.map Prod.snd) := by
            rw [← List.drop_drop, h2, List.drop_left]
          rw [matchAll_var] at hm
          refine ⟨_, rfl, d, rfl, .inl ⟨kvs, .inl hd1⟩, _, rfl, _, rfl, kvs, Sum.inl ((v + 2 : Nat) : Int), hd1, rfl, hkl, fun x hx => ?_, fun hn => ?_⟩
          · cases hf : s.find? (fun x => x.1 == v) with
            | none =>
              rw [hf] at hv
              rw [hv] at hx
              cases hx
            | some u =>
              rw [hf] at hv hm
              obtain ⟨q2, hq2, hq3⟩ := hv
              rw [hq2] at hx
              obtain rfl : V.ref q2 = x := Option.some.inj hx
              refine ⟨_, rfl, pd (enc u.2), pd (enc t1), dp_pd (SqL.of (keep1 _ _ hq3)), dp_pd (SqL.of upd_same), shaped_pd _, shaped_pd _, _, rfl, ?_⟩
              rw [eqv_pd]
              by_cases c : u.2 = t1
              · refine iteF' (by simp [c]) ?_
                refine ⟨_, rfl, rest, s, kvs, e + (enc t1).length, some (iv (v + 2)), some (iv (e + (enc t1).length)), some (.ref q1), rfl, fun b o z => ?_, hd1, hput.same keep1, by omega, g2, hdrop, he2, ?_⟩
                · rw [upd_ne (ne_of_none (s5 b o z) nq)]; exact s5 b o z
                · rw [← hm]
                  simp [c]
              · refine iteT' (by simp; intro z; exact c (enc_inj z)) ?_
                have r : instanceOf p t = false := by
                  rw [← hm]
                  simp [c]
                have r2 := q (upd H' q1 (.lst (encV t1))) (fun b o z => by rw [upd_ne (ne_of_none (s5 b o z) nq)]; exact s5 b o z)
                rw [r] at r2
                exact r2
          · cases hf : s.find? (fun x => x.1 == v) with
            | some u =>
              rw [hf] at hv
              obtain ⟨q2, hq2, hq3⟩ := hv
              rw [hq2] at hn
              cases hn
            | none =>
              rw [hf] at hm
              rw [putK_new _ hn]
              have keep2 : ∀ b xs, upd H' q1 (.lst (encV t1)) b = some (.lst xs) → upd (upd H' q1 (.lst (encV t1))) d (.dK (kvs ++ [(Sum.inl ((v + 2 : Nat) : Int), .ref q1)])) b = some (.lst xs) := fun b xs z => by
                rw [upd_ne]
                · exact z
                · rintro rfl
                  rw [hd1] at z
                  cases z
              refine ⟨_, rfl, pd (enc t1), pd (enc t1), dp_pd (SqL.of (keep2 _ _ upd_same)), dp_pd (SqL.of (keep2 _ _ upd_same)), shaped_pd _, shaped_pd _, _, rfl, ?_⟩
              rw [eqv_pd]
              refine iteF' (by simp) ?_
              refine ⟨_, rfl, rest, s ++ [(v, t1)], _, e + (enc t1).length, some (iv (v + 2)), some (iv (e + (enc t1).length)), some (.ref q1), rfl, fun b o z => ?_, upd_same, ((hput.same keep1).same keep2).snoc (keep2 _ _ upd_same), by simp; omega, g2, hdrop, he2, hm⟩
              rw [upd_ne (ne_of_none z nd), upd_ne (ne_of_none (s5 b o z) nq)]
              exact s5 b o z
    · rintro σ H' ⟨pairs, s, kvs, e, v4, v5, v6, rfl, s5, hd, hput, hsl, h1, h2, he, hm⟩
      rw [List.drop_of_length_le (by rw [hlp, enc_length]; exact Nat.le_refl _)] at h1
      match pairs, h1, hm with
      | [], _, hm =>
        have r := q H' s5
        rw [← hm] at r
        exact r
      | (p1, t1) :: rest, h1, _ =>
        exfalso
        simp only [List.map_cons, flat_cons] at h1
        exact enc_ne_nil p1 (List.append_eq_nil_iff.mp h1.symm).1
end
end Dr

namespace Dr
open PySem PySem.Spec PyProof.Rows L2
open Vapcma (Form showForm)
open VapcmBase (word showNat)
/-! ### the one form of a formula, as codes -/
def isImp : Form → Bool
  | .imp _ _ => true
  | _ => false
def showN (f : Form) : List Nat := nb (showForm f)
def brk (b : Bool) (x : List Nat) : List Nat := if b then [40, 32] ++ (x ++ [32, 41]) else x
theorem nb_showNat (n : Nat) : nb (showNat n) = TL.numL n := by
  unfold nb showNat TL.numL
  rw [List.map_map]
  refine List.map_congr_left fun c hc => ?_
  have h := TL.numL_digits n c.toNat (List.mem_map.mpr ⟨c, hc, rfl⟩)
  simp only [Function.comp]
  exact UInt8.toNat_ofNat_of_lt' (by show c.toNat < 256; omega)
theorem nb_word_x : nb (word "x") = [120] := by decide +kernel
theorem nb_word_t : nb (word "~ ") = [126, 32] := by decide +kernel
theorem nb_word_o : nb (word "( ") = [40, 32] := by decide +kernel
theorem nb_word_c : nb (word " )") = [32, 41] := by decide +kernel
theorem nb_word_i : nb (word " > ") = [32, 62, 32] := by decide +kernel
theorem showN_var (v : Nat) : showN (.var v) = [120] ++ TL.numL v := by
  unfold showN
  rw [showForm, nb_append, nb_word_x, nb_showNat]
theorem showN_neg (a : Form) : showN (.neg a) = [126, 32] ++ brk (isImp a) (showN a) := by
  cases a with
  | imp x y =>
    unfold showN
    rw [show showForm (.neg (.imp x y)) = word "~ " ++ (word "( " ++ (showForm (.imp x y) ++ word " )")) by first | rfl | simp [showForm]]
    rw [nb_append, nb_word_t, nb_append, nb_append, nb_word_o, nb_word_c]
    rfl
  | var v =>
    unfold showN
    rw [show showForm (.neg (.var v)) = word "~ " ++ showForm (.var v) by first | rfl | simp [showForm]]
    rw [nb_append, nb_word_t]
    rfl
  | neg x =>
    unfold showN
    rw [show showForm (.neg (.neg x)) = word "~ " ++ showForm (.neg x) by first | rfl | simp [showForm]]
    rw [nb_append, nb_word_t]
    rfl
theorem showN_imp (a b : Form) : showN (.imp a b) = brk (isImp a) (showN a) ++ ([32, 62, 32] ++ showN b) := by
  cases a with
  | imp x y =>
    unfold showN
    rw [show showForm (.imp (.imp x y) b) = (word "( " ++ (showForm (.imp x y) ++ word " )")) ++ (word " > " ++ showForm b) by first | rfl | simp [showForm]]
    rw [nb_append, nb_append, nb_append, nb_append, nb_word_i, nb_word_o, nb_word_c]
    rfl
  | var v =>
    unfold showN
    rw [show showForm (.imp (.var v) b) = showForm (.var v) ++ (word " > " ++ showForm b) by first | rfl | simp [showForm]]
    rw [nb_append, nb_append, nb_word_i]
    rfl
  | neg x =>
    unfold showN
    rw [show showForm (.imp (.neg x) b) = showForm (.neg x) ++ (word " > " ++ showForm b) by first | rfl | simp [showForm]]
    rw [nb_append, nb_append, nb_word_i]
    rfl
theorem brk_len (b : Bool) (x : List Nat) : (brk b x).length ≤ x.length + 4 := by
  unfold brk
  split
  · simp
  · omega
theorem showN_len : ∀ f : Form, (∀ v ∈ Vapcma.vars f, v < 1000) → (showN f).length ≤ 8 * Vapcma.size f
  | .var v, h => by
    rw [showN_var]
    have := TL.numL_len (n := v) (k := 3) (by decide) (h v (by simp [Vapcma.vars]))
    simp only [Vapcma.size, List.length_append, List.length_cons, List.length_nil]
    omega
  | .neg a, h => by
    rw [showN_neg]
    have := showN_len a fun v hv => h v (by simpa [Vapcma.vars] using hv)
    have := brk_len (isImp a) (showN a)
    simp only [Vapcma.size, List.length_append, List.length_cons, List.length_nil]
    omega
  | .imp a b, h => by
    rw [showN_imp]
    have := showN_len a fun v hv => h v (by simp [Vapcma.vars, hv])
    have := showN_len b fun v hv => h v (by simp [Vapcma.vars, hv])
    have := brk_len (isImp a) (showN a)
    simp only [Vapcma.size, List.length_append, List.length_cons, List.length_nil]
    omega
theorem fits_of {n : Nat} (h : n ≤ 100000) : n ≤ sizeLine := Nat.le_trans h (by decide)
theorem fitslt_of {n : Nat} (h : n ≤ 100000) : n < sizeLine := Nat.lt_of_le_of_lt h (by decide)
theorem S_emp (a : List Nat) : Str.empty ++ SX.S a = SX.S a := SX.S_cat [] a
section
variable {P : Program} {w : World} {K : PySem.W.Frag} {mg : Str → Option Value} {base : Heap} {L : Lay}
def sp_bracketed (K : PySem.W.Frag) : Sp := fun vs H Q _ => ∃ (a : Addr) (x : List Nat) (b : Bool), vs = [.ref a] ∧ SqT K H a [.str (SX.S x), .bl b] ∧ x.length ≤ 90000 ∧ Q (.str (SX.S (brk b x))) H
abbrev s_bracketed : Stmt := top 12
theorem sc_bracketed : FnScope ["part", "text"] ["part"] (defScope s_bracketed) := ⟨rfl, rfl, rfl, by decide +kernel, rfl, by decide +kernel, by decide +kernel⟩
theorem ok_bracketed {f : Addr} {fd : FuncData} (F : Fun K "bracketed" "bracketed" s_bracketed f fd) (T : Txt K mg L) : FnOk P w K mg base CX0 1 f fd ["part"] (sp_bracketed K) := by
  refine F.ok sc_bracketed (fun vs H Q E h => ?_) (fun cdv A outer s H vs Q E hr h => ?_)
  · obtain ⟨a, x, b, rfl, _⟩ := h
    rfl
  · refine ⟨_, pss_cons (ps_set (i := 1) sc_bracketed.nd rfl (Or.inl rfl) (pe_ix ix_tup (pv 0) pe_int (fun _ _ => rfl)))
      (pss_one (ps_ret (pe_ifExp (pt_val (pe_ix ix_tup (pv 0) pe_int (fun _ _ => rfl))) (pe_joined (.cons pe_str (.cons (pe_fmt (pv 1)) (.cons pe_str .nil)))) (pv 1)))), ?_⟩
    obtain ⟨a, x, b, rfl, h, hl, q⟩ := h
    refine ⟨_, rfl, a, _, 0, _, rfl, rfl, h, atI_nat (j := 0) rfl, ?_⟩
    refine ⟨_, rfl, a, _, 1, _, rfl, rfl, h, atI_nat (j := 1) rfl, b, rfl, ?_⟩
    cases b with
    | true =>
      refine iteT ?_
      refine ⟨_, rfl, (by decide +kernel), _, rfl, .inl ⟨_, rfl, ?_, _, rfl, ?_, _, rfl, ?_, ?_⟩⟩
      · rw [SX.S_len]; exact fits_of (by omega)
      · rw [show (Str.empty ++ (Str.ofString "( ") : Str) = SX.S [40, 32] by decide +kernel, SX.S_cat, SX.S_len]
        exact fits_of (by simp; omega)
      · rw [show (Str.empty ++ (Str.ofString "( ") : Str) = SX.S [40, 32] by decide +kernel, SX.S_cat, show (Str.ofString " )" : Str) = SX.S [32, 41] by decide +kernel, SX.S_cat, SX.S_len]
        exact fits_of (by simp; omega)
      · show Q (.str (((Str.empty ++ (Str.ofString "( ") : Str) ++ SX.S x) ++ (Str.ofString " )"))) H
        rw [show (Str.empty ++ (Str.ofString "( ") : Str) = SX.S [40, 32] by decide +kernel, SX.S_cat, show (Str.ofString " )" : Str) = SX.S [32, 41] by decide +kernel, SX.S_cat, List.append_assoc]
        exact q
    | false =>
      refine iteF ?_
      exact ⟨_, rfl, q⟩
/-- the stack of parts that are written -/
inductive StkIs (H : Hp) : List Form → List V → Prop
  | nil : StkIs H [] []
  | cons {t : Form} {q : Addr} {ts : List Form} {vs : List V} (h : H q = some (.tup [.str (SX.S (showN t)), .bl (isImp t)])) (r : StkIs H ts vs) : StkIs H (t :: ts) (.ref q :: vs)
theorem StkIs.same {H H' : Hp} (e : ∀ b xs, H b = some (.tup xs) → H' b = some (.tup xs)) {ts : List Form} {vs : List V} (h : StkIs H ts vs) : StkIs H' ts vs := by
  induction h with
  | nil => exact .nil
  | cons h _ ih => exact .cons (e _ _ h) ih
theorem StkIs.length {H : Hp} {ts : List Form} {vs : List V} (h : StkIs H ts vs) : vs.length = ts.length := by
  induction h with
  | nil => rfl
  | cons h _ ih => simp [ih]
theorem last_rev {α : Type} (y : α) (r : List α) : (y :: r).reverse[(y :: r).reverse.length - 1]? = some y := by simp
theorem drop_rev {α : Type} (y : α) (r : List α) : (y :: r).reverse.dropLast = r.reverse := by simp
def sp_written (K : PySem.W.Frag) : Sp := fun vs H Q _ => ∃ (a : Addr) (f : Form), vs = [.ref a] ∧ SqL K H a (encV f) ∧ Vapcma.size f ≤ 1000 ∧ (∀ v ∈ Vapcma.vars f, v < 1000) ∧ ∀ H', Same H H' → Q (.str (SX.S (showN f))) H'
abbrev s_written : Stmt := top 11
theorem sc_written : FnScope ["formula", "parts", "sign", "first", "second", "denied", "number"] ["formula"] (defScope s_written) := ⟨rfl, rfl, rfl, by decide +kernel, rfl, by decide +kernel, by decide +kernel⟩
theorem flat_len (ts : List Form) : ts.length ≤ (flat ts).length := by
  induction ts with
  | nil => simp
  | cons t ts ih =>
    have := enc_length t
    have := Vapcma.size
    simp only [flat_cons, List.length_append, List.length_cons]
    have := size_pos t
    omega
/-- of what is written so far each part is short -/
theorem part_short {f : Form} {pre : List Nat} {ts : List Form} (h : enc f = pre ++ flat ts) (hv : ∀ v ∈ Vapcma.vars f, v < 1000) (hz : Vapcma.size f ≤ 1000) : ∀ t ∈ ts, (showN t).length ≤ 8000 := by
  intro t ht
  have hin : ∀ s ∈ enc t, s ∈ enc f := fun s hs => by
    rw [h]
    exact List.mem_append.mpr (.inr (List.mem_flatMap.mpr ⟨t, ht, hs⟩))
  have hvt : ∀ v ∈ Vapcma.vars t, v < 1000 := fun v hv' => by
    rw [← labs_enc] at hv'
    exact hv v (by rw [← labs_enc]; exact mem_labs.mpr (hin _ (mem_labs.mp hv')))
  have hlen : (enc t).length ≤ (enc f).length := by
    rw [h, List.length_append]
    have : (enc t).length ≤ (flat ts).length := by
      clear h hin hvt
      induction ts with
      | nil => cases ht
      | cons u us ih =>
        simp only [flat_cons, List.length_append]
        rcases List.mem_cons.mp ht with rfl | ht
        · omega
        · have := ih ht; omega
    omega
  have := showN_len t hvt
  rw [enc_length, enc_length] at hlen
  omega
theorem ok_written {f : Addr} {fd : FuncData} (F : Fun K "written" "written" s_written f fd) (T : Txt K mg L) (h_bracketed : HasDef P w K mg base CX0 1 "bracketed" ["part"] (sp_bracketed K)) : FnOk P w K mg base CX0 2 f fd ["formula"] (sp_written K) := by
  refine F.ok sc_written (fun vs H Q E h => ?_) (fun cdv A outer s H vs Q E hr h => ?_)
  · obtain ⟨a, f, rfl, _⟩ := h
    rfl
  · obtain ⟨t0, g_IMPLIES⟩ := T.vIMPLIES
    obtain ⟨t1, g_DENIES⟩ := T.vDENIES
    obtain ⟨t2, g_FIRST_UNKNOWN⟩ := T.vFIRST_UNKNOWN
    have n_reversed := T.n_reversed
    obtain ⟨f_bracketed, fd_bracketed, m_bracketed, k_bracketed, b_bracketed, G_bracketed⟩ := h_bracketed
    refine ⟨_, pss_cons (ps_set (i := 1) sc_written.nd rfl (Or.inl rfl) (pe_lst pa_nil))
      (pss_cons (ps_for PassesOwn.never rfl (pi_reversed (by rfl) n_reversed (pa_cons (pv 0) pa_nil)) (pg_name (i := 2) sc_written.nd rfl (Or.inl rfl))
        (pss_one (ps_if (pt_cmpR op_eq (pv 2) (pe_gi g_IMPLIES) (nomark _))
            (pss_cons (ps_set (i := 3) sc_written.nd rfl (Or.inl rfl) (pe_call G_bracketed (hr.mono (by decide)) rfl m_bracketed k_bracketed b_bracketed .nil pass0 (pa_cons (pe_bm0 PySem.F.plainAttrs_list PySem.F.slot_list_pop PySem.F.type_list_pop mt_pop (pv 1)) pa_nil)))
              (pss_cons (ps_set (i := 4) sc_written.nd rfl (Or.inl rfl) (pe_ix ix_tup (pe_bm0 PySem.F.plainAttrs_list PySem.F.slot_list_pop PySem.F.type_list_pop mt_pop (pv 1)) pe_int (fun _ _ => rfl)))
              (pss_one (ps_expr (pe_bm PySem.F.plainAttrs_list PySem.F.slot_list_append PySem.F.type_list_append mt_append (pv 1) (pa_cons (pe_tup (pa_cons (pe_joined (.cons (pe_fmt (pv 3)) (.cons pe_str (.cons (pe_fmt (pv 4)) .nil)))) (pa_cons pe_bl pa_nil))) pa_nil))))))
            (pss_one (ps_if (pt_cmpR op_eq (pv 2) (pe_gi g_DENIES) (nomark _))
                (pss_cons (ps_set (i := 5) sc_written.nd rfl (Or.inl rfl) (pe_call G_bracketed (hr.mono (by decide)) rfl m_bracketed k_bracketed b_bracketed .nil pass0 (pa_cons (pe_bm0 PySem.F.plainAttrs_list PySem.F.slot_list_pop PySem.F.type_list_pop mt_pop (pv 1)) pa_nil)))
                  (pss_one (ps_expr (pe_bm PySem.F.plainAttrs_list PySem.F.slot_list_append PySem.F.type_list_append mt_append (pv 1) (pa_cons (pe_tup (pa_cons (pe_joined (.cons pe_str (.cons (pe_fmt (pv 5)) .nil))) (pa_cons pe_bl pa_nil))) pa_nil)))))
                (pss_cons (ps_set (i := 6) sc_written.nd rfl (Or.inl rfl) (pe_op op_sub (pv 2) (pe_gi g_FIRST_UNKNOWN)))
                  (pss_one (ps_expr (pe_bm PySem.F.plainAttrs_list PySem.F.slot_list_append PySem.F.type_list_append mt_append (pv 1) (pa_cons (pe_tup (pa_cons (pe_joined (.cons pe_str (.cons (pe_fmt (pv 6)) .nil))) (pa_cons pe_bl pa_nil))) pa_nil))))))))))
      (pss_one (ps_ret (pe_ix ix_tup (pe_ix ix_list (pv 1) pe_int (fun _ _ => rfl)) pe_int (fun _ _ => rfl))))), ?_⟩
    obtain ⟨a, f, rfl, hs, hz, hv, k⟩ := h
    have hl : (encV f).length = Vapcma.size f := by rw [encV, List.length_map, enc_length]
    refine ⟨(by decide), fun p np => ?_⟩
    refine ⟨_, rfl, a, _, rfl, (same_new np).seq hs, RT.for_Itv (K := K) (a := a) (xs := encV f)
      (fun i σ H' => ∃ (pre : List Nat) (ts : List Form) (vs : List V) (v2 v3 v4 v5 v6 : Option V), σ = [some (.ref a), some (.ref p), v2, v3, v4, v5, v6] ∧ Same H H' ∧ H' p = some (.lst vs.reverse) ∧ StkIs H' ts vs ∧ enc f = pre ++ flat ts ∧ pre.length + i = Vapcma.size f)
      ⟨enc f, [], [], none, none, none, none, none, rfl, same_new np, upd_same, .nil, by simp, by rw [enc_length]; rfl⟩ (fun i σ H' ⟨_, _, _, _, _, _, _, _, _, s5, _⟩ => s5.seq hs) ?_ ?_⟩
    · rintro i x σ H' hi hx ⟨pre, ts, vs, v2, v3, v4, v5, v6, rfl, s5, hp, hst, hf, hpl⟩
      obtain ⟨y, hy, rfl⟩ := get_map hx
      rw [hl] at hi hy
      obtain ⟨pre', y', rfl⟩ : ∃ pre' y', pre = pre' ++ [y'] := by
        have hne : pre ≠ [] := by
          intro e
          rw [e] at hpl
          simp at hpl
          omega
        exact ⟨_, _, (List.dropLast_concat_getLast hne).symm⟩
      have hpl' : pre'.length = Vapcma.size f - 1 - i := by
        simp only [List.length_append, List.length_cons, List.length_nil] at hpl
        omega
      obtain rfl : y = y' := by
        rw [hf, ← hpl', List.append_assoc, List.getElem?_append_right (Nat.le_refl _), Nat.sub_self] at hy
        exact (Option.some.inj hy).symm
      rw [List.append_assoc] at hf
      have hf2 : enc f = pre' ++ y :: flat ts := hf
      have short := part_short (f := f) (pre := pre' ++ [y]) (ts := ts) (by rw [List.append_assoc]; exact hf) hv hz
      have hpl2 : pre'.length + (i + 1) = Vapcma.size f := by omega
      have hvl : vs.length ≤ 1000 := by
        rw [hst.length]
        have h1 := flat_len ts
        have h2 := congrArg List.length hf2
        rw [enc_length, List.length_append, List.length_cons] at h2
        omega
      have tupk : ∀ (H1 : Hp) (o : List V), H1 p = some (.lst o) → ∀ (u : HO), ∀ b xs, H1 b = some (.tup xs) → upd H1 p u b = some (.tup xs) := fun H1 o e u b xs z => by
        rw [upd_ne]
        · exact z
        · rintro rfl; rw [e] at z; cases z
      refine ⟨_, rfl, rfl, _, rfl, ?_⟩
      refine ite2 (fun c => ?_) (fun c => ?_)
      · have c : y = 0 := by have := V.int.inj (of_decide_eq_true c); omega
        subst c
        obtain ⟨t1, t2, r, rfl⟩ := suf_imp hf2
        match vs, hst with
        | _, .cons (q := q1) (vs := vs1) hq1 hr1 =>
        match vs1, hr1 with
        | _, .cons (q := q2) (vs := vs2) hq2 hr2 =>
        have s1 := short t1 (by simp)
        have s2 := short t2 (by simp)
        have b1 := brk_len (isImp t1) (showN t1)
        refine ⟨_, rfl, .inl ⟨rfl, _, SqL.of hp⟩, p, _, _, rfl, rfl, hp, last_rev _ _, ?_⟩
        rw [drop_rev]
        refine ⟨q1, _, _, rfl, SqT.of (tupk _ _ hp _ _ _ hq1), by omega, ?_⟩
        refine ⟨_, rfl, .inl ⟨rfl, _, SqL.of upd_same⟩, p, _, _, rfl, rfl, upd_same, last_rev _ _, ?_⟩
        rw [drop_rev, upd_upd]
        refine ⟨q2, _, 0, _, rfl, rfl, SqT.of (tupk _ _ hp _ _ _ hq2), atI_nat (j := 0) rfl, ?_⟩
        refine ⟨_, rfl, .inl ⟨rfl, _, SqL.of upd_same⟩, _, rfl, .inl ⟨_, rfl, ?_, _, rfl, ?_, _, rfl, ?_, _, rfl, .inl ⟨_, rfl, ?_, _, rfl, ?_, (by show 2 ≤ sizeLine; decide), fun q nq => ?_⟩⟩⟩
        · rw [SX.S_len]; exact fits_of (by omega)
        · rw [S_emp, SX.S_len]; exact fits_of (by omega)
        · rw [S_emp, show (Str.ofString " > " : Str) = SX.S [32, 62, 32] by decide +kernel, SX.S_cat, SX.S_len]
          exact fits_of (by simp; omega)
        · rw [SX.S_len]; exact fits_of (by omega)
        · rw [S_emp, show (Str.ofString " > " : Str) = SX.S [32, 62, 32] by decide +kernel, SX.S_cat, SX.S_cat, SX.S_len]
          exact fits_of (by simp; omega)
        · rw [S_emp, show (Str.ofString " > " : Str) = SX.S [32, 62, 32] by decide +kernel, SX.S_cat, SX.S_cat, List.append_assoc, ← showN_imp]
          have npq : p ≠ q := ne_of_none (upd_same (H := H') (a := p) (o := .lst vs2.reverse)) nq
          refine ⟨p, _, _, rfl, rfl, by rw [upd_ne npq]; exact upd_same, ?_, ?_⟩
          · rw [List.length_reverse]
            exact fitslt_of (by simp at hvl; omega)
          · have key : ∀ b xs, H' b = some (.tup xs) → upd (upd (upd H' p (.lst vs2.reverse)) q (.tup [.str (SX.S (showN (.imp t1 t2))), .bl true])) p (.lst (vs2.reverse ++ [.ref q])) b = some (.tup xs) := fun b xs z => by
              have z1 := tupk _ _ hp (.lst vs2.reverse) b xs z
              rw [upd_ne (by rintro rfl; rw [hp] at z; cases z), upd_ne (ne_of_none z1 nq)]
              exact z1
            refine ⟨pre', .imp t1 t2 :: r, .ref q :: vs2, _, _, _, v5, v6, rfl, fun b o z => ?_, ?_, ?_, ?_, hpl2⟩
            · have z1 : upd H' p (.lst vs2.reverse) b = some o := by rw [upd_ne (ne_of_none z np)]; exact s5 b o z
              rw [upd_ne (ne_of_none z np), upd_ne (ne_of_none z1 nq)]
              exact z1
            · rw [upd_same]; simp
            · refine .cons ?_ (hr2.same key)
              rw [upd_ne (Ne.symm npq), upd_same]
              rfl
            · rw [hf2]; simp [enc]
      · refine ⟨_, rfl, rfl, _, rfl, ?_⟩
        refine ite2 (fun d => ?_) (fun d => ?_)
        · have d : y = 1 := by have := V.int.inj (of_decide_eq_true d); omega
          subst d
          obtain ⟨t1, r, rfl⟩ := suf_neg hf2
          match vs, hst with
          | _, .cons (q := q1) (vs := vs1) hq1 hr1 =>
          have s1 := short t1 (by simp)
          have b1 := brk_len (isImp t1) (showN t1)
          refine ⟨_, rfl, .inl ⟨rfl, _, SqL.of hp⟩, p, _, _, rfl, rfl, hp, last_rev _ _, ?_⟩
          rw [drop_rev]
          refine ⟨q1, _, _, rfl, SqT.of (tupk _ _ hp _ _ _ hq1), by omega, ?_⟩
          refine ⟨_, rfl, .inl ⟨rfl, _, SqL.of upd_same⟩, _, rfl, (by decide +kernel), _, rfl, .inl ⟨_, rfl, ?_, _, rfl, ?_, (by show 2 ≤ sizeLine; decide), fun q nq => ?_⟩⟩
          · rw [SX.S_len]; exact fits_of (by omega)
          · rw [show (Str.empty ++ (Str.ofString "~ ") : Str) = SX.S [126, 32] by decide +kernel, SX.S_cat, SX.S_len]
            exact fits_of (by simp; omega)
          · rw [show (Str.empty ++ (Str.ofString "~ ") : Str) = SX.S [126, 32] by decide +kernel, SX.S_cat, ← showN_neg]
            have npq : p ≠ q := ne_of_none (upd_same (H := H') (a := p) (o := .lst vs1.reverse)) nq
            refine ⟨p, _, _, rfl, rfl, by rw [upd_ne npq]; exact upd_same, ?_, ?_⟩
            · rw [List.length_reverse]
              exact fitslt_of (by simp at hvl; omega)
            · have key : ∀ b xs, H' b = some (.tup xs) → upd (upd (upd H' p (.lst vs1.reverse)) q (.tup [.str (SX.S (showN (.neg t1))), .bl false])) p (.lst (vs1.reverse ++ [.ref q])) b = some (.tup xs) := fun b xs z => by
                have z1 := tupk _ _ hp (.lst vs1.reverse) b xs z
                rw [upd_ne (by rintro rfl; rw [hp] at z; cases z), upd_ne (ne_of_none z1 nq)]
                exact z1
              refine ⟨pre', .neg t1 :: r, .ref q :: vs1, _, v3, v4, _, v6, rfl, fun b o z => ?_, ?_, ?_, ?_, hpl2⟩
              · have z1 : upd H' p (.lst vs1.reverse) b = some o := by rw [upd_ne (ne_of_none z np)]; exact s5 b o z
                rw [upd_ne (ne_of_none z np), upd_ne (ne_of_none z1 nq)]
                exact z1
              · rw [upd_same]; simp
              · refine .cons ?_ (hr1.same key)
                rw [upd_ne (Ne.symm npq), upd_same]
                rfl
              · rw [hf2]; simp [enc]
        · have c : ¬ y = 0 := fun e => c (by simp [e])
          have d : ¬ y = 1 := fun e => d (by simp [e])
          obtain ⟨v, rfl⟩ : ∃ v, y = v + 2 := ⟨y - 2, by omega⟩
          have hvv : v < 1000 := hv v (by rw [← labs_enc]; exact mem_labs.mpr (by rw [hf2]; simp))
          have nl := TL.numL_len (n := v) (k := 3) (by decide) hvv
          refine ⟨_, rfl, _, _, rfl, rfl, ?_⟩
          have ev : ((v + 2 : Nat) : Int) - 2 = (v : Int) := by omega
          refine ⟨_, rfl, .inl ⟨rfl, _, SqL.of hp⟩, _, rfl, (by decide +kernel), _, rfl, .inr ⟨_, rfl, ?_, _, rfl, ?_, (by show 2 ≤ sizeLine; decide), fun q nq => ?_⟩⟩
          · rw [ev, Int.natAbs_natCast]
            refine Nat.lt_of_le_of_lt (m := v) (Nat.log2_le_self v) (by omega)
          · rw [ev, SX.num_S, show (Str.empty ++ (Str.ofString "x") : Str) = SX.S [120] by decide +kernel, SX.S_cat, SX.S_len]
            exact fits_of (by simp; omega)
          · rw [ev, SX.num_S, show (Str.empty ++ (Str.ofString "x") : Str) = SX.S [120] by decide +kernel, SX.S_cat, ← showN_var]
            have npq : p ≠ q := ne_of_none hp nq
            refine ⟨p, _, _, rfl, rfl, by rw [upd_ne npq]; exact hp, ?_, ?_⟩
            · rw [List.length_reverse]
              exact fitslt_of (by omega)
            · have key : ∀ b xs, H' b = some (.tup xs) → upd (upd H' q (.tup [.str (SX.S (showN (.var v))), .bl false])) p (.lst (vs.reverse ++ [.ref q])) b = some (.tup xs) := fun b xs z => by
                rw [upd_ne (by rintro rfl; rw [hp] at z; cases z), upd_ne (ne_of_none z nq)]
                exact z
              refine ⟨pre', .var v :: ts, .ref q :: vs, _, v3, v4, v5, _, rfl, fun b o z => ?_, ?_, ?_, ?_, hpl2⟩
              · rw [upd_ne (ne_of_none z np), upd_ne (ne_of_none (s5 b o z) nq)]
                exact s5 b o z
              · rw [upd_same]; simp
              · refine .cons ?_ (hst.same key)
                rw [upd_ne (Ne.symm npq), upd_same]
                rfl
              · rw [hf2]; simp [enc]
    · rintro σ H' ⟨pre, ts, vs, v2, v3, v4, v5, v6, rfl, s5, hp, hst, hf, hpl⟩
      have : pre = [] := List.length_eq_zero_iff.mp (by rw [hl] at hpl; omega)
      subst this
      have := suf_all (by simpa using hf)
      subst this
      match vs, hst with
      | _, .cons (q := q1) hq1 .nil =>
        exact ⟨_, rfl, p, _, 0, _, rfl, rfl, SqL.of hp, atI_nat (j := 0) rfl, q1, _, 0, _, rfl, rfl, SqT.of hq1, atI_nat (j := 0) rfl, k H' s5⟩
end
end Dr

namespace Dr
open PySem PySem.Spec PyProof.Rows L2
open Vapcma (Form)
theorem lk_here {k : Str} {v : V} {r : List (Str × V)} : List.lookup k ((k, v) :: r) = some v := by
  have e : (k == k) = true := beq_self_eq_true k
  simp only [List.lookup, e]
theorem lk_past {k g : Str} {v : V} {r : List (Str × V)} (h : (k == g) = false) : List.lookup k ((g, v) :: r) = List.lookup k r := by
  simp only [List.lookup, h]
theorem put_here {f : Str} {v x : V} {r : List (Str × V)} : putF f v ((f, x) :: r) = (f, v) :: r := if_pos rfl
theorem put_past {f g : Str} {v x : V} {r : List (Str × V)} (h : ¬ g = f) : putF f v ((g, x) :: r) = (g, x) :: putF f v r := if_neg h
/-! ## fitting.py: the net as it lies -/
def netF (h p s : Addr) : List (Str × V) := [("heads", .ref h), ("parts", .ref p), ("stands", .ref s)]
theorem net_heads (h p s : Addr) : (netF h p s).lookup ("heads" : Str) = some (.ref h) := lk_here
theorem net_parts (h p s : Addr) : (netF h p s).lookup ("parts" : Str) = some (.ref p) := (lk_past (by decide +kernel)).trans lk_here
theorem net_stands (h p s : Addr) : (netF h p s).lookup ("stands" : Str) = some (.ref s) := (lk_past (by decide +kernel)).trans ((lk_past (by decide +kernel)).trans lk_here)
theorem net_none (h p s : Addr) {m : Str} (h1 : (m == ("heads" : Str)) = false) (h2 : (m == ("parts" : Str)) = false) (h3 : (m == ("stands" : Str)) = false) : (netF h p s).lookup m = none :=
  (lk_past h1).trans ((lk_past h2).trans ((lk_past h3).trans rfl))
theorem net_init (h p s : Addr) : putF "stands" (.ref s) (putF "parts" (.ref p) (putF "heads" (.ref h) [])) = netF h p s := by
  have e1 : putF ("heads" : Str) (V.ref h) [] = [(("heads" : Str), V.ref h)] := rfl
  have e2 : putF ("parts" : Str) (V.ref p) [(("heads" : Str), V.ref h)] = [(("heads" : Str), V.ref h), (("parts" : Str), V.ref p)] := (put_past (by decide +kernel)).trans rfl
  rw [e1, e2]
  exact (put_past (by decide +kernel)).trans (congrArg _ ((put_past (by decide +kernel)).trans rfl))
structure NAd where
  a : Addr
  dx : Addr
  ha : Addr
  pa : Addr
  sa : Addr
/-- the nodes' parts, a tuple each -/
inductive PartsIs (H : Hp) : List (List Nat) → List V → Prop
  | nil : PartsIs H [] []
  | cons {p : List Nat} {q : Addr} {ps : List (List Nat)} {vs : List V} (h : H q = some (.tup (p.map iv))) (r : PartsIs H ps vs) : PartsIs H (p :: ps) (.ref q :: vs)
theorem PartsIs.same {H H' : Hp} (e : ∀ b xs, H b = some (.tup xs) → H' b = some (.tup xs)) {ps : List (List Nat)} {vs : List V} (h : PartsIs H ps vs) : PartsIs H' ps vs := by
  induction h with
  | nil => exact .nil
  | cons h _ ih => exact .cons (e _ _ h) ih
theorem PartsIs.length {H : Hp} {ps : List (List Nat)} {vs : List V} (h : PartsIs H ps vs) : vs.length = ps.length := by
  induction h with
  | nil => rfl
  | cons h _ ih => simp [ih]
theorem PartsIs.snoc {H : Hp} {ps : List (List Nat)} {vs : List V} (h : PartsIs H ps vs) {p : List Nat} {q : Addr} (hq : H q = some (.tup (p.map iv))) : PartsIs H (ps ++ [p]) (vs ++ [.ref q]) := by
  induction h with
  | nil => exact .cons hq .nil
  | cons h _ ih => exact .cons h ih
theorem PartsIs.get {H : Hp} {ps : List (List Nat)} {vs : List V} (h : PartsIs H ps vs) : ∀ {i : Nat} {p : List Nat}, ps[i]? = some p → ∃ q, vs[i]? = some (.ref q) ∧ H q = some (.tup (p.map iv)) := by
  induction h with
  | nil => intro i p e; simp at e
  | @cons p q ps vs h _ ih =>
    intro i p' e
    cases i with
    | zero =>
      simp only [List.getElem?_cons_zero, Option.some.injEq] at e
      subst e
      exact ⟨q, rfl, h⟩
    | succ i =>
      simp only [List.getElem?_cons_succ] at e
      obtain ⟨q', h1, h2⟩ := ih e
      exact ⟨q', h1, h2⟩
structure NetAt (H : Hp) (L : Lay) (n : NAd) (N : Net) (st : List Nat) : Prop where
  obj : H n.a = some (.ins L.Net n.dx (netF n.ha n.pa n.sa))
  hs : H n.ha = some (.lst (N.hs.map iv))
  ps : ∃ vs, H n.pa = some (.lst vs) ∧ PartsIs H N.ps vs
  st : H n.sa = some (.lst (st.map iv))
  d1 : n.ha ≠ n.pa
  d2 : n.ha ≠ n.sa
  d3 : n.pa ≠ n.sa
def NetS (n : NAd) (b : Addr) : Prop := b = n.ha ∨ b = n.pa ∨ b = n.sa
theorem NetAt.mono {H H' : Hp} {L : Lay} {n : NAd} {N : Net} {st : List Nat} (h : NetAt H L n N st) (e : ∀ b o, H b = some o → (∃ xs, o = .tup xs) ∨ b = n.a ∨ NetS n b → H' b = some o) : NetAt H' L n N st := by
  obtain ⟨vs, h1, h2⟩ := h.ps
  exact ⟨e _ _ h.obj (.inr (.inl rfl)), e _ _ h.hs (.inr (.inr (.inl rfl))), ⟨vs, e _ _ h1 (.inr (.inr (.inr (.inl rfl)))), h2.same fun b xs z => e _ _ z (.inl ⟨xs, rfl⟩)⟩, e _ _ h.st (.inr (.inr (.inr (.inr rfl)))), h.d1, h.d2, h.d3⟩
theorem NetAt.same {H H' : Hp} {L : Lay} {n : NAd} {N : Net} {st : List Nat} (h : NetAt H L n N st) (e : Same H H') : NetAt H' L n N st := h.mono fun b o z _ => e b o z
/-- a list or a dict elsewhere is changed -/
theorem NetAt.upd {H : Hp} {L : Lay} {n : NAd} {N : Net} {st : List Nat} (h : NetAt H L n N st) {x : Addr} {u o : HO} (hx : H x = some u) (hu : (∃ xs, u = .lst xs) ∨ ∃ xs, u = .dK xs) (nx : ¬ NetS n x) : NetAt (upd H x o) L n N st := by
  refine h.mono fun b v z k => ?_
  rw [upd_ne]
  · exact z
  · rintro rfl
    rw [z] at hx
    cases hx
    rcases k with ⟨xs, rfl⟩ | rfl | k
    · rcases hu with ⟨_, hu⟩ | ⟨_, hu⟩ <;> cases hu
    · rw [h.obj] at z
      cases z
      rcases hu with ⟨_, hu⟩ | ⟨_, hu⟩ <;> cases hu
    · exact nx k
theorem NetAt.ne {H : Hp} {L : Lay} {n : NAd} {N : Net} {st : List Nat} (h : NetAt H L n N st) {x : Addr} (hx : H x = none) : ¬ NetS n x ∧ x ≠ n.a := by
  obtain ⟨vs, h1, _⟩ := h.ps
  refine ⟨?_, fun e => ?_⟩
  · rintro (e | e | e)
    · rw [e, h.hs] at hx; cases hx
    · rw [e, h1] at hx; cases hx
    · rw [e, h.st] at hx; cases hx
  · rw [e, h.obj] at hx; cases hx
section
variable {P : Program} {w : World} {K : PySem.W.Frag} {mg : Str → Option Value} {base : Heap} {L : Lay}
/-! ### the net's methods -/
def sp_Net_init (L : Lay) : Sp := fun vs H Q _ => ∃ (p dx : Addr), vs = [.ref p] ∧ H p = some (.ins L.Net dx []) ∧
  ∀ (H' : Hp) (n : NAd), n.a = p → n.dx = dx → NetAt H' L n ⟨[], []⟩ [] → (∀ b o, H b = some o → b ≠ p → H' b = some o) → (∀ b, NetS n b → H b = none) → Q .non H'
abbrev s_Net_init : Stmt := inClass (top 16) 0
theorem sc_Net_init : FnScope ["self"] ["self"] (defScope s_Net_init) := ⟨rfl, rfl, rfl, by decide +kernel, rfl, by decide +kernel, by decide +kernel⟩
theorem ok_Net_init {f : Addr} {fd : FuncData} (F : Fun K "__init__" "Net.__init__" s_Net_init f fd) (T : Txt K mg L) : FnOk P w K mg base CX0 1 f fd ["self"] (sp_Net_init L) := by
  refine F.ok sc_Net_init (fun vs H Q E h => ?_) (fun cdv A outer s H vs Q E hr h => ?_)
  · obtain ⟨p, dx, rfl, _⟩ := h
    rfl
  · refine ⟨_, pss_cons (ps_fld (pv 0) (pe_lst pa_nil) rfl)
      (pss_cons (ps_fld (pv 0) (pe_lst pa_nil) rfl)
      (pss_one (ps_fld (pv 0) (pe_lst pa_nil) rfl))), ?_⟩
    obtain ⟨p, dx, rfl, hp, k⟩ := h
    refine ⟨(by decide), fun q1 n1 => ⟨_, rfl, p, L.Net, dx, _, rfl, by rw [upd_ne (ne_of_none hp n1)]; exact hp, T.cNet, T.nNet_heads, (by decide), ?_⟩⟩
    have e1 : p ≠ q1 := ne_of_none hp n1
    refine ⟨(by decide), fun q2 n2 => ⟨_, rfl, p, L.Net, dx, _, rfl, by rw [upd_ne (ne_of_none upd_same n2)]; exact upd_same, T.cNet, T.nNet_parts, (by show 1 < 1000; decide), ?_⟩⟩
    have e2 : p ≠ q2 := ne_of_none upd_same n2
    have e3 : q1 ≠ q2 := ne_of_none (by rw [upd_ne (Ne.symm e1)]; exact upd_same) n2
    refine ⟨(by decide), fun q3 n3 => ⟨_, rfl, p, L.Net, dx, _, rfl, by rw [upd_ne (ne_of_none upd_same n3)]; exact upd_same, T.cNet, T.nNet_stands, (by show 2 < 1000; decide), ?_⟩⟩
    have e4 : p ≠ q3 := ne_of_none upd_same n3
    have e5 : q2 ≠ q3 := ne_of_none (by rw [upd_ne (Ne.symm e2)]; exact upd_same) n3
    have e6 : q1 ≠ q3 := ne_of_none (by rw [upd_ne (Ne.symm e1), upd_ne e3, upd_ne (Ne.symm e1)]; exact upd_same) n3
    have f2 : H q2 = none := by
      rw [upd_ne (Ne.symm e2), upd_ne (Ne.symm e3)] at n2; exact n2
    have f3 : H q3 = none := by
      rw [upd_ne (Ne.symm e4), upd_ne (Ne.symm e5), upd_ne (Ne.symm e4), upd_ne (Ne.symm e6)] at n3; exact n3
    refine k _ ⟨p, dx, q1, q2, q3⟩ rfl rfl ⟨?_, ?_, ⟨[], ?_, .nil⟩, ?_, e3, e6, e5⟩ (fun b o z nb => ?_) ?_
    · rw [upd_same, net_init]
    · show upd _ p _ q1 = _
      rw [upd_ne (Ne.symm e1), upd_ne e6, upd_ne (Ne.symm e1), upd_ne e3, upd_ne (Ne.symm e1), upd_same]
      rfl
    · show upd _ p _ q2 = _
      rw [upd_ne (Ne.symm e2), upd_ne e5, upd_ne (Ne.symm e2), upd_same]
    · show upd _ p _ q3 = _
      rw [upd_ne (Ne.symm e4), upd_same]
      rfl
    · rw [upd_ne nb, upd_ne (ne_of_none z f3), upd_ne nb, upd_ne (ne_of_none z f2), upd_ne nb, upd_ne (ne_of_none z n1)]
      exact z
    · rintro b (rfl | rfl | rfl)
      · exact n1
      · exact f2
      · exact f3
def sp_add_node (L : Lay) : Sp := fun vs H Q _ => ∃ (n : NAd) (N : Net) (st : List Nat) (h : Nat) (q : Addr) (p : List Nat), vs = [.ref n.a, iv h, .ref q] ∧ NetAt H L n N st ∧ H q = some (.tup (p.map iv)) ∧
  N.hs.length ≤ 10000 ∧ N.ps.length = N.hs.length ∧ st.length = N.hs.length ∧
  ∀ H', NetAt H' L n (N.add h p) (st ++ [N.hs.length]) → Fr (NetS n) H H' → Q (iv N.hs.length) H'
abbrev s_Net_add_node : Stmt := inClass (top 16) 1
theorem sc_Net_add_node : FnScope ["self", "head", "parts", "node"] ["self", "head", "parts"] (defScope s_Net_add_node) := ⟨rfl, rfl, rfl, by decide +kernel, rfl, by decide +kernel, by decide +kernel⟩
theorem ok_Net_add_node {f : Addr} {fd : FuncData} (F : Fun K "add_node" "Net.add_node" s_Net_add_node f fd) (T : Txt K mg L) : FnOk P w K mg base CX0 1 f fd ["self", "head", "parts"] (sp_add_node L) := by
  refine F.ok sc_Net_add_node (fun vs H Q E h => ?_) (fun cdv A outer s H vs Q E hr h => ?_)
  · obtain ⟨n, N, st, h, q, p, rfl, _⟩ := h
    rfl
  · have n_len := T.n_len
    refine ⟨_, pss_cons (ps_set (i := 3) sc_Net_add_node.nd rfl (Or.inl rfl) (pe_callB call_len_seq (by rfl) n_len PySem.boot_len (pa_cons (pe_fld (pv 0) rfl) pa_nil)))
      (pss_cons (ps_expr (pe_bm PySem.F.plainAttrs_list PySem.F.slot_list_append PySem.F.type_list_append mt_append (pe_fld (pv 0) rfl) (pa_cons (pv 1) pa_nil)))
      (pss_cons (ps_expr (pe_bm PySem.F.plainAttrs_list PySem.F.slot_list_append PySem.F.type_list_append mt_append (pe_fld (pv 0) rfl) (pa_cons (pv 2) pa_nil)))
      (pss_cons (ps_expr (pe_bm PySem.F.plainAttrs_list PySem.F.slot_list_append PySem.F.type_list_append mt_append (pe_fld (pv 0) rfl) (pa_cons (pv 3) pa_nil)))
      (pss_one (ps_ret (pv 3)))))), ?_⟩
    obtain ⟨n, N, st, h, q, p, rfl, hN, hq, hz, hpl, hsl, k⟩ := h
    obtain ⟨vs, hp1, hp2⟩ := hN.ps
    have na1 : n.a ≠ n.ha := ne_of hN.obj hN.hs (by intro z; cases z)
    have na2 : n.a ≠ n.pa := ne_of hN.obj hp1 (by intro z; cases z)
    have na3 : n.a ≠ n.sa := ne_of hN.obj hN.st (by intro z; cases z)
    have nq1 : q ≠ n.ha := ne_of hq hN.hs (by intro z; cases z)
    have nq2 : q ≠ n.pa := ne_of hq hp1 (by intro z; cases z)
    have nq3 : q ≠ n.sa := ne_of hq hN.st (by intro z; cases z)
    refine ⟨_, rfl, n.a, _, _, _, _, rfl, hN.obj, T.cNet, T.nNet_heads, net_heads _ _ _, n.ha, _, rfl, .inl (SqL.of hN.hs), ?_⟩
    refine ⟨_, rfl, n.a, _, _, _, _, rfl, hN.obj, T.cNet, T.nNet_heads, net_heads _ _ _, .inl ⟨rfl, _, SqL.of hN.hs⟩, _, rfl, n.ha, _, _, rfl, rfl, hN.hs, (by rw [List.length_map]; exact fitslt_of (by omega)), ?_⟩
    have o1 : upd H n.ha (.lst (N.hs.map iv ++ [iv h])) n.a = some (.ins L.Net n.dx (netF n.ha n.pa n.sa)) := by rw [upd_ne na1]; exact hN.obj
    have p1 : upd H n.ha (.lst (N.hs.map iv ++ [iv h])) n.pa = some (.lst vs) := by rw [upd_ne (Ne.symm hN.d1)]; exact hp1
    refine ⟨_, rfl, n.a, _, _, _, _, rfl, o1, T.cNet, T.nNet_parts, net_parts _ _ _, .inl ⟨rfl, _, SqL.of p1⟩, _, rfl, n.pa, _, _, rfl, rfl, p1, (by rw [hp2.length]; exact fitslt_of (by omega)), ?_⟩
    have o2 : upd (upd H n.ha (.lst (N.hs.map iv ++ [iv h]))) n.pa (.lst (vs ++ [.ref q])) n.a = some (.ins L.Net n.dx (netF n.ha n.pa n.sa)) := by rw [upd_ne na2]; exact o1
    have p2 : upd (upd H n.ha (.lst (N.hs.map iv ++ [iv h]))) n.pa (.lst (vs ++ [.ref q])) n.sa = some (.lst (st.map iv)) := by rw [upd_ne (Ne.symm hN.d3), upd_ne (Ne.symm hN.d2)]; exact hN.st
    refine ⟨_, rfl, n.a, _, _, _, _, rfl, o2, T.cNet, T.nNet_stands, net_stands _ _ _, .inl ⟨rfl, _, SqL.of p2⟩, _, rfl, n.sa, _, _, rfl, rfl, p2, (by rw [List.length_map]; exact fitslt_of (by omega)), ?_⟩
    refine ⟨_, rfl, ?_⟩
    rw [List.length_map]
    have tk : ∀ b xs, H b = some (.tup xs) → upd (upd (upd H n.ha (.lst (N.hs.map iv ++ [iv h]))) n.pa (.lst (vs ++ [.ref q]))) n.sa (.lst (st.map iv ++ [iv N.hs.length])) b = some (.tup xs) := fun b xs z => by
      rw [upd_ne (ne_of z hN.st (by intro z; cases z)), upd_ne (ne_of z hp1 (by intro z; cases z)), upd_ne (ne_of z hN.hs (by intro z; cases z))]
      exact z
    have pz := PartsIs.snoc (hp2.same tk) (tk _ _ hq)
    refine k _ ⟨?_, ?_, ⟨vs ++ [V.ref q], ?_, pz⟩, ?_, hN.d1, hN.d2, hN.d3⟩ (fun b o z nb => ?_)
    · rw [upd_ne na3]; exact o2
    · rw [upd_ne hN.d2, upd_ne hN.d1, upd_same]
      simp [Net.add]
    · rw [upd_ne hN.d3, upd_same]
    · rw [upd_same]
      simp
    · rw [upd_ne (fun e => nb (.inr (.inr e))), upd_ne (fun e => nb (.inr (.inl e))), upd_ne (fun e => nb (.inl e))]
      exact z
def sp_leader (L : Lay) : Sp := fun vs H Q _ => ∃ (n : NAd) (N : Net) (st : List Nat) (k x r : Nat), vs = [.ref n.a, iv x] ∧ NetAt H L n N st ∧ Lead st k x r ∧ Q (iv r) H
abbrev s_Net_leader : Stmt := inClass (top 16) 3
theorem sc_Net_leader : FnScope ["self", "node"] ["self", "node"] (defScope s_Net_leader) := ⟨rfl, rfl, rfl, by decide +kernel, rfl, by decide +kernel, by decide +kernel⟩
theorem ok_Net_leader {f : Addr} {fd : FuncData} (F : Fun K "leader" "Net.leader" s_Net_leader f fd) (T : Txt K mg L) : FnOk P w K mg base CX0 1 f fd ["self", "node"] (sp_leader L) := by
  refine F.ok sc_Net_leader (fun vs H Q E h => ?_) (fun cdv A outer s H vs Q E hr h => ?_)
  · obtain ⟨n, N, st, k, x, r, rfl, _⟩ := h
    rfl
  · refine ⟨_, pss_cons (ps_while PassesOwn.never (pt_cmpR op_ne (pe_ix ix_list (pe_fld (pv 0) rfl) (pv 1) (fun _ _ => rfl)) (pv 1) (nomark _))
        (pss_one (ps_set (i := 1) sc_Net_leader.nd rfl (Or.inl rfl) (pe_ix ix_list (pe_fld (pv 0) rfl) (pv 1) (fun _ _ => rfl)))))
      (pss_one (ps_ret (pv 1))), ?_⟩
    obtain ⟨n, N, st, k, x, r, rfl, hN, hl, q⟩ := h
    refine ⟨fun m σ H' => H' = H ∧ ∃ y, σ = [some (.ref n.a), some (iv y)] ∧ Lead st m y r, ⟨k, rfl, x, rfl, hl⟩, ?_⟩
    rintro m σ H' ⟨eH, y, rfl, hy⟩
    subst eH
    have rd : ∀ {z}, st[y]? = some z → atI (st.map iv) (y : Int) = some (iv z) := fun h => iv_at h
    cases hy with
    | root h =>
      refine ⟨_, rfl, n.a, _, _, _, _, rfl, hN.obj, T.cNet, T.nNet_stands, net_stands _ _ _, _, rfl, n.sa, _, _, _, rfl, rfl, SqL.of hN.st, rd h, _, rfl, rfl, _, rfl, ?_⟩
      refine iteF' (by simp) ?_
      exact ⟨_, rfl, q⟩
    | @step k y z r h ne l =>
      refine ⟨_, rfl, n.a, _, _, _, _, rfl, hN.obj, T.cNet, T.nNet_stands, net_stands _ _ _, _, rfl, n.sa, _, _, _, rfl, rfl, SqL.of hN.st, rd h, _, rfl, rfl, _, rfl, ?_⟩
      refine iteT' (by simp; omega) ?_
      refine ⟨fun σ' H2 => ∃ m', m' < k + 1 ∧ (H2 = H' ∧ ∃ y, σ' = [some (.ref n.a), some (iv y)] ∧ Lead st m' y r), fun _ _ z => z, ?_⟩
      refine ⟨_, rfl, n.a, _, _, _, _, rfl, hN.obj, T.cNet, T.nNet_stands, net_stands _ _ _, _, rfl, n.sa, _, _, _, rfl, rfl, SqL.of hN.st, rd h, ?_⟩
      exact ⟨k, Nat.lt_succ_self _, rfl, z, rfl, l⟩
end
end Dr

namespace Dr
open PySem PySem.Spec PyProof.Rows L2 RT
open PySem.Builtin
theorem nolen_rt : typeLookup (.type "reversed") "__len__" = pure none := by rw [typeLookup_type, builtinLookup_eq_fast]; kernel_rfl
theorem hint_look_rt : typeLookup (.type "reversed") "__length_hint__" = pure (some (.builtin "reversed.__length_hint__")) := by rw [typeLookup_type, builtinLookup_eq_fast]; kernel_rfl
theorem entry_rt_hint : entryFor table "reversed.__length_hint__" = some Builtin.«reversed.__length_hint__» := entryFor_of_tree (by kernel_rfl)
theorem slot_rt_hint : Slot "reversed" "__length_hint__" "reversed.__length_hint__" :=
  .of (owner := "reversed") (n := "__length_hint__") hint_look_rt (by decide +kernel) (by decide +kernel) (by decide +kernel)
    (by first | exact .inl (by decide +kernel) | exact .inr (by decide +kernel)) (by rw [isSubtype_type]; kernel_rfl)
theorem args_rt_hint (a : Value) : argsOk "reversed.__length_hint__" ⟨[a], []⟩ := by
  unfold argsOk
  rw [signature?_of (id := "reversed.__length_hint__") (n := ['_', '_', 't', 'n', 'i', 'h', '_', 'h', 't', 'g', 'n', 'e', 'l', '_', '_']) (o := ['d', 'e', 's', 'r', 'e', 'v', 'e', 'r']) (by kernel_rfl) owner_rt]
  kernel_rfl
section
variable {prog : Program} {w : World} {A : Around} {E : Value → Shared → Prop} {s : Shared}
theorem hint_rt {it t : Addr} {i : Int} {items : Array Value} {Q : Bool → Shared → Prop} (hit : IsRt s.heap it t i) (ht : IsTup s.heap t items) (hsz : items.size ≤ sizeLine) (h0 : -1 ≤ i) (h1 : i < items.size)
    (h : ∀ b tk, Q b { s with toks := tk }) : wpAny (model prog w) A (Builtin.List.listLengthHint (.ref it)) Q E s := by
  unfold Builtin.List.listLengthHint
  refine wpAny_bind (wpAny_specialOf hit.typeIs nolen_rt ?_)
  try dsimp only
  refine wpAny_bind (wpAny_specialOf hit.typeIs hint_look_rt ?_)
  generalize hid : ("reversed.__length_hint__" : String) = id0
  wp_delta
  rw [show splitId id0 = some ("reversed", "__length_hint__") from by subst hid; decide +kernel]
  subst hid
  refine wpAny_bind (wpAny_isInstance (b := true) hit.typeIs (by rw [isSubtype_type]; kernel_rfl) ?_)
  rw [if_neg (by decide)]
  refine wpAny_ite_split (fun hab => absurd hab (by decide +kernel)) (fun _ => ?_)
  refine wpAny_bind (wpAny_rule ?_)
  refine wpAny_bind (wpAny_of_eq (a := (Value.builtin "reversed.__length_hint__", [Value.ref it])) (by kernel_rfl) ?_)
  refine wpAny_bind (wpAny_attempt ?_)
  try dsimp only
  refine wpAny_call_entry slot_rt_hint hit.typeIs entry_rt_hint ?_ (args_rt_hint _)
  obtain ⟨o, ho, hc, hd⟩ := id hit
  unfold Builtin.«reversed.__length_hint__»
  refine wpAny_bind (wpAny_of_eq (a := Value.ref it) rfl ?_)
  refine wpAny_bind (wpAny_field ho hd (x := .ref t) rfl ?_)
  try dsimp only
  rw [if_neg (show ¬ (Value.ref t == Value.none) = true from fun z => by cases z)]
  rw [sizeLine_eq] at hsz
  refine wpAny_bind (len_tuple ht (by omega) ?_)
  refine wpAny_bind (wpAny_of_eq (a := some (items.size : Int)) rfl ?_)
  try dsimp only
  refine wpAny_bind (wpAny_field (s := { s with toks := s.toks + 1 + 1 }) ho hd (x := rawInt i) rfl ?_)
  show wpAny _ _ (if (items.size : Int) < i + 1 then _ else retInt (i + 1)) _ _ _
  rw [if_neg (by omega)]
  unfold retInt
  refine wpAny_bind (wpAny_mkInt ?_)
  refine wpAny_pure ⟨_, rfl, ?_⟩
  try dsimp only
  refine wpAny_bind (wpAny_of_eq (a := some (i + 1)) rfl ?_)
  try dsimp only
  have f1 : List.listFitsIndex (i + 1) = true := by
    unfold List.listFitsIndex
    rw [Bool.and_eq_true, decide_eq_true_eq, decide_eq_true_eq]
    omega
  rw [if_neg (by rw [f1]; decide), if_neg (by omega)]
  have f2 : List.listTooLong (i + 1).toNat = false := by
    unfold List.listTooLong
    rw [sizeLine_eq]
    exact decide_eq_false (by omega)
  rw [if_neg (by rw [f2]; decide)]
  exact wpAny_pure (h _ _)
theorem walks_rt (hh : A.handled = none) (it t : Addr) (hne : t ≠ it) (items : Array Value) (hsz : items.size ≤ sizeLine) :
    Walks prog w A it [it, t] [it] items.size (fun i v => items[items.size - 1 - i]? = some v) (fun i h => i ≤ items.size ∧ IsRt h it t ((items.size : Int) - 1 - (i : Nat)) ∧ IsTup h t items) where
  sub := fun b hb => by simp at hb; simp [hb]
  frame := fun i h h' st hk => ⟨st.1, st.2.1.at fun o e => hk it (by simp) o e, by
    obtain ⟨o, ho, r⟩ := st.2.2
    exact ⟨o, hk t (by simp) o ho, r⟩⟩
  item := fun i s Q E hi st hQ => by
    obtain ⟨h1, h2, h3⟩ := st
    have e1 : (items.size : Int) - 1 - ((i : Nat) : Int) = ((items.size - 1 - i : Nat) : Int) := by omega
    rw [e1] at h2
    have hx : items[items.size - 1 - i]? = some items[items.size - 1 - i] := Array.getElem?_eq_getElem (by omega)
    refine next_rt_item h2 h3 hx hsz fun h' st' sb => ?_
    have e2 : ((items.size - 1 - i : Nat) : Int) - 1 = (items.size : Int) - 1 - ((i + 1 : Nat) : Int) := by omega
    rw [e2] at st'
    refine hQ _ h' _ hx ⟨hi, st', ?_⟩ fun b o hb e => (sb.2 b (by simpa using hb)).trans e
    obtain ⟨o, ho, r⟩ := h3
    exact ⟨o, (sb.2 t hne).trans ho, r⟩
  done := fun s Q E st hQ => by
    obtain ⟨h1, h2, h3⟩ := st
    have e1 : (items.size : Int) - 1 - ((items.size : Nat) : Int) = -1 := by omega
    rw [e1] at h2
    exact next_rt_end hh h2 fun h' eb => hQ h' _ fun b o hb e => eb b o (by simpa using hb) e
  self := fun i s Q E st hQ => iter_rt st.2.1 hQ
theorem lrev_extend {R : Result → Shared → Prop} {it t : Addr} {items : Array Value} (hh : A.handled = none) (hit : IsRt s.heap it t ((items.size : Int) - 1)) (ht : IsTup s.heap t items) (hne : t ≠ it) (hn : items.size ≤ sizeLine)
    (S : Addr) (hSr : S ≠ it) (hSd : S ≠ t) (res : Value) (c₀ : Nat) (hS : s.heap.get? S = some { cls := .type "list", data := .seq #[] c₀ })
    (hR : ∀ h' tk acc' c', (∀ b o, b ≠ S → b ≠ it → s.heap.get? b = some o → h'.get? b = some o) → h'.get? S = some { cls := .type "list", dict := none, data := .seq acc' c', slots := #[] } → ItemsOf (fun i v => items[items.size - 1 - i]? = some v) acc' items.size → R (.ok (.ret res)) { s with heap := h', toks := tk }) :
    wpAny (model prog w) A.in1 (Builtin.List.listExtendWith (.ref S) (.ref it) res)
      (fun fin s' => match fin with | .done f => R (.ok f) s' | .again c' => c'.quiet = true ∧ codeAny (model prog w) A c' R s') (fun e s' => R (.error e) s') s := by
  have hSf : S ∉ [it, t] := by simp only [List.mem_cons, List.not_mem_nil, or_false, not_or]; exact ⟨hSr, hSd⟩
  have W := walks_rt (prog := prog) (w := w) (A := A.in1) hh it t hne items hn
  have key : ∀ (h : Heap) (c₁ tk : Nat), IsRt h it t ((items.size : Int) - 1) → IsTup h t items → (∀ b o, b ≠ S → s.heap.get? b = some o → h.get? b = some o) →
      h.get? S = some { cls := .type "list", data := .seq #[] c₁ } → codeAny (model prog w) A (.builtin "list.extend.loop" ⟨[.ref S, .ref it, res], []⟩) R { s with heap := h, toks := tk } := by
    intro h c₁ tk h1 h2 hk hS₁
    refine codeAny_extend_loopS W.toS hn S hSf res items.size 0 _ #[] c₁ rfl (Nat.zero_le _) ⟨Nat.zero_le _, ?_, h2⟩ hS₁ (ItemsOf.nil _) fun s' acc' c' hm hS' hacc => ?_
    · have e0 : ((items.size : Nat) : Int) - 1 - ((0 : Nat) : Int) = (items.size : Int) - 1 := by omega
      rw [e0]; exact h1
    rw [Moved.eq_with hm]
    refine hR s'.heap s'.toks acc' c' (fun b o hb hb2 e => hm.heap b o (fun hmem => ?_) (hk b o hb e)) hS' hacc
    rcases List.mem_cons.mp hmem with e' | hmem
    · exact hb e'
    · exact hb2 (List.mem_singleton.mp hmem)
  unfold Builtin.List.listExtendWith
  refine wpAny_bind (wpAny_typeOf (T := "reversed") hit.typeIs ?_)
  have h1 : Builtin.List.listSameRef (.ref S) (.ref it) = false := by simp [Builtin.List.listSameRef, hSr]
  have hl : (Value.type "reversed" == Value.type "list") = false := by decide
  have htp : (Value.type "reversed" == Value.type "tuple") = false := by decide
  simp only [h1, hl, htp, Bool.or_false, Bool.false_eq_true, if_false]
  refine wpAny_bind (iter_rt hit ?_)
  refine wpAny_bind (wpAny_holding (hint_rt hit ht hn (by omega) (by omega) fun b tk => ?_))
  refine wpAny_ite_split (fun _ => ?_) (fun _ => wpAny_pure ⟨plainId_quiet PySem.F.plain_extend_loop _, key _ c₀ _ hit ht (fun b o _ e => e) hS⟩)
  refine wpAny_bind (wpAny_rule ?_)
  refine wpAny_bind ?_
  show wpAny _ _ (updateSeq S (·.push .none) >>= fun _ => updateSeq S (·.pop)) _ _ _
  refine wpAny_bind (wpAny_updateSeq hS rfl ?_)
  have hS₂ := Heap.get?_update_self (Obj.mapSeq (·.push Value.none)) hS rfl
  refine wpAny_updateSeq (hz := by seq_fits) hS₂ rfl ?_
  have hS₃ := Heap.get?_update_self (Obj.mapSeq (·.pop)) hS₂ rfl
  have oth : ∀ b o, b ≠ S → s.heap.get? b = some o → ((s.heap.update S (Obj.mapSeq (·.push Value.none))).update S (Obj.mapSeq (·.pop))).get? b = some o :=
    fun b o hb e => (Heap.get?_update_other _ _ (Ne.symm hb)).trans ((Heap.get?_update_other _ _ (Ne.symm hb)).trans e)
  refine wpAny_pure ⟨plainId_quiet PySem.F.plain_extend_loop _, key _ _ _ (hit.at fun o e => oth it o (Ne.symm hSr) e) ?_ (fun b o hb e => oth b o hb e) hS₃⟩
  obtain ⟨o, ho, r⟩ := ht
  exact ⟨o, oth t o (Ne.symm hSd) ho, r⟩
theorem lrev_init {R : Result → Shared → Prop} {it t : Addr} {items : Array Value} (hh : A.handled = none) (hit : IsRt s.heap it t ((items.size : Int) - 1)) (ht : IsTup s.heap t items) (hne : t ≠ it) (hn : items.size ≤ sizeLine)
    (S : Addr) (hSr : S ≠ it) (hSd : S ≠ t) (hS : s.heap.get? S = some { cls := .type "list", data := .seq #[] })
    (hR : ∀ h' tk acc' c', (∀ b o, b ≠ S → b ≠ it → s.heap.get? b = some o → h'.get? b = some o) → h'.get? S = some { cls := .type "list", dict := none, data := .seq acc' c', slots := #[] } → ItemsOf (fun i v => items[items.size - 1 - i]? = some v) acc' items.size → R (.ok (.ret .none)) { s with heap := h', toks := tk }) :
    wpAny (model prog w) A.in1 (Builtin.«list.__init__» ⟨[.ref S, .ref it], []⟩)
      (fun fin s' => match fin with | .done f => R (.ok f) s' | .again c' => c'.quiet = true ∧ codeAny (model prog w) A c' R s') (fun e s' => R (.error e) s') s := by
  show wpAny _ _ (do let old ← Builtin.List.listItems (.ref S); Builtin.List.listUpdate (.ref S) (fun _ => #[]); letGo old.toList.reverse; Builtin.List.listExtendWith (.ref S) (.ref it) .none) _ _ s
  refine wpAny_bind ?_
  unfold Builtin.List.listItems
  refine wpAny_bind (wpAny_seqItems hS rfl (wpAny_pure ?_))
  show wpAny _ _ (updateSeq S (fun _ => #[]) >>= fun _ => letGo (#[] : Array Value).toList.reverse >>= fun _ => Builtin.List.listExtendWith (.ref S) (.ref it) .none) _ _ s
  refine wpAny_bind (wpAny_updateSeq hS rfl ?_)
  have hS₂ := Heap.get?_update_self (Obj.mapSeq (fun _ => (#[] : Array Value))) hS rfl
  have oth : ∀ b o, b ≠ S → s.heap.get? b = some o → (s.heap.update S (Obj.mapSeq (fun _ => (#[] : Array Value)))).get? b = some o :=
    fun b o hb e => (Heap.get?_update_other _ _ (Ne.symm hb)).trans e
  refine wpAny_bind (wpAny_letGo ?_)
  refine lrev_extend (s := { s with heap := s.heap.update S (Obj.mapSeq (fun _ => (#[] : Array Value))) }) hh (hit.at fun o e => oth it o (Ne.symm hSr) e) ?_ hne hn S hSr hSd .none _ hS₂ (fun h' tk acc' c' hk hS' hacc => ?_)
  · obtain ⟨o, ho, r⟩ := ht
    exact ⟨o, oth t o (Ne.symm hSd) ho, r⟩
  · exact hR h' tk acc' c' (fun b o hb hb2 e => hk b o hb hb2 (oth b o hb e)) hS' hacc
theorem lrev_call {Q : Value → Shared → Prop} {it t : Addr} {items : Array Value} (hh : A.handled = none) (hit : IsRt s.heap it t ((items.size : Int) - 1)) (ht : IsTup s.heap t items) (hne : t ≠ it) (hn : items.size ≤ sizeLine)
    (hQ : ∀ h' tk acc' c', (∀ b o, b ≠ it → s.heap.get? b = some o → h'.get? b = some o) → h'.get? s.heap.objs.size = some { cls := .type "list", dict := none, data := .seq acc' c', slots := #[] } → ItemsOf (fun i v => items[items.size - 1 - i]? = some v) acc' items.size → Q (.ref s.heap.objs.size) { s with heap := h', toks := tk }) :
    wpAny (model prog w) A (call (.type "list") [.ref it]) Q E s := by
  refine callType_codes (Q₁ := fun obj s₁ => obj = .ref s.heap.objs.size ∧ s₁ = { s with heap := s.heap.push { cls := .type "list", data := .seq #[] } }) PySem.F.called_list (PySem.F.typeCall_list_1 _) PySem.F.entry_list_init
    (code_list_new _ ⟨rfl, rfl⟩) fun obj s₁ h₁ => ?_
  obtain ⟨rfl, rfl⟩ := h₁
  have hS : (s.heap.push { cls := .type "list", data := .seq #[] }).get? s.heap.objs.size = some { cls := .type "list", data := .seq #[] } := Heap.get?_push_size _ rfl
  obtain ⟨oi, hoi, _⟩ := id hit
  have h1 := Heap.lt_size hoi
  have h2 := ht.lt
  refine ⟨⟨_, hS, rfl⟩, PySem.F.args_list_init_2 _ _, lrev_init (A := A.in1) hh (hit.at fun o e => Heap.get?_push_of_some _ e) ?_ hne hn _ (Nat.ne_of_gt h1) (Nat.ne_of_gt h2) hS (fun h' tk acc' c' hk hS' hacc => ?_)⟩
  · obtain ⟨o, ho, r⟩ := ht
    exact ⟨o, Heap.get?_push_of_some _ ho, r⟩
  · exact ⟨rfl, hQ h' tk acc' c' (fun b o hb e => hk b o (Nat.ne_of_lt (Heap.lt_size e)) hb (Heap.get?_push_of_some _ e)) hS' hacc⟩
end
end Dr

namespace Dr
open PySem PySem.Spec PyProof.Rows L2 RT
/-- list(reversed(x)), x a tuple: a new list -/
def tLstRev (K : PySem.W.Frag) (te : TE) : TE := fun σ H Q => te σ H fun v H1 => ∃ (a : Addr) (xs : List V), v = .ref a ∧ SqT K H1 a xs ∧ ∀ q, H1 q = none → Q (.ref q) (upd H1 q (.lst xs.reverse))
section
variable {X : Cx}
theorem pe_lstRev {e : Expr} {te : TE} {p p2 pos pos2 : Pos} (hc : X.calm = true) (hg : Gl X "list") (hm : X.mg "list" = none) (hg2 : Gl X "reversed") (hm2 : X.mg "reversed" = none) (he : PE X e te)
    (hs : starEach [e] X.env = (false, eval e X.env) :: starEach [] X.env := by rfl)
    (hs2 : starEach [.Call (.Name "reversed" p2) [e] [] pos2] X.env = (false, eval (.Call (.Name "reversed" p2) [e] [] pos2) X.env) :: starEach [] X.env := by rfl) :
    PE X (.Call (.Name "list" p) [.Call (.Name "reversed" p2) [e] [] pos2] [] pos) (tLstRev X.K te) := by
  refine ⟨fun pins s σ H Q I h => ?_⟩
  refine Call_ (ld_blt I hg hm PyProof.Rows.boot_list (PyProof.Rows.callWith_type1 (args_cons (Call_ (ld_blt I hg2 hm2 PyProof.Rows.boot_reversed (PyProof.Rows.callWith_type1 (args_cons (thn (he.run pins s σ H _ I h) fun u s1 ⟨v, H1, I1, r1, q1⟩ => args_nil ?_) hs) hs rfl))) hs2) hs2 rfl))
  obtain ⟨a, xs, ev, hq, q⟩ := q1
  subst ev
  obtain rfl : u = Value.ref a := r1
  obtain ⟨its, rv, p', hz⟩ := I1.tuple hq
  have hl := rv.length
  have hn := line63
  have hz2 : its.toArray.size ≤ sizeLine := by rw [List.size_toArray, ← rv.length]; exact hz
  refine call_reversed_tup p' (fun A E Q k => len_tuple p' (by simp only [List.size_toArray] <;> omega) k) (args_nil ?_)
  have k0 : ∀ b o, s1.heap.get? b = some o → (s1.heap.push (rtObj a ((its.toArray.size : Int) - 1))).get? b = some o := fun b o e => Heap.get?_push_of_some _ e
  have I2 : Inv X pins σ H1 { s1 with heap := s1.heap.push (rtObj a ((its.toArray.size : Int) - 1)), toks := s1.toks + 1 + 1 } := I1.kept (t' := s1.toks + 1 + 1) k0
  obtain ⟨f0, f1, f2, f3, f4, f5⟩ := I1.fpOk (H' := H1) (b := s1.heap.objs.size) (Nat.le_refl _) (I1.hok.fresh (Nat.le_refl _))
  have hne : a ≠ s1.heap.objs.size := Nat.ne_of_lt p'.lt
  have ht2 : IsTup (s1.heap.push (rtObj a ((its.toArray.size : Int) - 1))) a its.toArray := by
    obtain ⟨o, ho, r⟩ := p'
    exact ⟨o, Heap.get?_push_of_some _ ho, r⟩
  refine lrev_call (s := { s1 with heap := s1.heap.push (rtObj a ((its.toArray.size : Int) - 1)), toks := s1.toks + 1 + 1 }) (I1.ok.hd hc) ⟨_, Heap.get?_push_size _ rfl, rfl, rfl⟩ ht2 hne hz2 fun h' tk acc c' hk hS hi => ?_
  have hN : (s1.heap.push (rtObj a ((its.toArray.size : Int) - 1))).objs.size = s1.heap.objs.size + 1 := by simp [Heap.push]
  refine ⟨.ref (s1.heap.push (rtObj a ((its.toArray.size : Int) - 1))).objs.size, upd H1 (s1.heap.push (rtObj a ((its.toArray.size : Int) - 1))).objs.size (.lst xs.reverse),
    I2.turnedNew (t' := tk) (ch := [s1.heap.objs.size]) (fun b o hb e => hk b o (by simpa using hb) e) (fun b hb => ?_) (Nat.le_refl _) (show ObjOk X.prog X.w _ _ _ (.lst xs.reverse) from ⟨by rw [List.length_reverse]; exact hz, acc.toList, c', vals_rev rv hi, ?_⟩), rfl, q _ (I2.hok.fresh (Nat.le_refl _))⟩
  · obtain rfl : b = s1.heap.objs.size := by simpa using hb
    exact ⟨f0, f1, f2, f3, f4, f5⟩
  · rw [Array.toArray_toList]
    exact hS
end
end Dr

namespace Dr
open PySem PySem.Spec PyProof.Rows L2 RZ
open PySem.Builtin
/-! ## zip of two tuples where the target is one name: the pair that was given out may still be there -/
/-- the record of a zip: f0 what was given out, f1 whether that is known to be kept -/
abbrev ZR (h : Heap) (z TI TO : Addr) (f0 : Value) (f1 : Bool) : Prop :=
  h.get? z = some { cls := .type "zip", dict := none, data := .fields #[f0, .bool f1, .bool false, .ref TI, .ref TO], slots := #[] }
def Given (v : Value) : Prop := v = .none ∨ ∃ T : Nat, v = rawInt (T : Int)
section
variable {prog : Program} {w : World} {A : Around} {E : Value → Shared → Prop} {s : Shared}
theorem alive_any {a : Addr} {Q : Option Obj → Shared → Prop} (h : ∀ o, s.heap.get? a = o → Q o s) : wpAny (model prog w) A (loadIfAlive a) Q E s := fun _ _ _ => h _ rfl
theorem z_free {z TI TO : Addr} {f0 : Value} {f1 : Bool} {Q : Bool → Shared → Prop} (hz : ZR s.heap z TI TO f0 f1) (hg : Given f0) (hY : Q true s)
    (hN : ∀ h', ZR h' z TI TO f0 true → Heap.SameBut z s.heap h' → Q false { s with heap := h' }) : wpAny (model prog w) A (SmallTypes.ownedTupleIsFree (.ref z)) Q E s := by
  unfold SmallTypes.ownedTupleIsFree
  rcases hg with rfl | ⟨T, rfl⟩
  · exact wpAny_bind (wpAny_field hz rfl (x := .none) rfl (wpAny_pure hY))
  · refine wpAny_bind (wpAny_field hz rfl (x := rawInt (T : Int)) rfl ?_)
    show wpAny _ _ (loadIfAlive ((T : Int).toNat) >>= _) _ _ _
    refine wpAny_bind (alive_any fun o ho => ?_)
    cases o with
    | none => exact wpAny_pure hY
    | some oT =>
      simp only [Option.isNone_some, Bool.false_eq_true, if_false]
      refine wpAny_bind (wpAny_field hz rfl (x := .bool f1) rfl ?_)
      cases f1 with
      | true =>
        rw [if_neg (show ¬ ((Value.bool true != Value.bool true) = true) from Bool.false_ne_true)]
        exact wpAny_pure (hN s.heap hz (Heap.SameBut.refl _ _))
      | false =>
        rw [if_pos (show (Value.bool false != Value.bool true) = true from rfl)]
        exact wpAny_bind (wpAny_setField_rec hz (by simp) fun h1 z1 k1 => wpAny_pure (hN h1 z1 k1))
theorem z_item {z TI TO i1 i2 l1 l2 : Addr} {f0 : Value} {f1 : Bool} {k1 k2 : Nat} {xs ys : Array Value} {x y a b : Value} {Q : Value → Shared → Prop} (D : ZipApart z TI TO i1 i2 l1 l2)
    (hz : ZR s.heap z TI TO f0 f1) (hg : Given f0) (hTI : IsPair s.heap TI (.ref i1) (.ref i2)) (hTO : IsPair s.heap TO a b)
    (h1 : s.heap.IsTupleIter i1 l1 k1) (h2 : s.heap.IsTupleIter i2 l2 k2) (hl1 : s.heap.IsTuple l1 xs) (hl2 : s.heap.IsTuple l2 ys) (hx : xs[k1]? = some x) (hy : ys[k2]? = some y)
    (hQ : ∀ h' g0 g1, ZR h' z TI TO g0 g1 → Given g0 → (∃ a b, IsPair h' TO a b) → h'.IsTupleIter i1 l1 (k1 + 1) → h'.IsTupleIter i2 l2 (k2 + 1) → IsPair h' s.heap.objs.size x y →
      (∀ c o, c ≠ z → c ≠ TO → c ≠ i1 → c ≠ i2 → s.heap.get? c = some o → h'.get? c = some o) → Q (.ref s.heap.objs.size) { s with heap := h' }) :
    wpAny (model prog w) A (Builtin.«zip.__next__» ⟨[.ref z], []⟩) (fun fin s' => ∃ v, fin = .done (.ret v) ∧ Q v s') E s := by
  show wpAny _ _ (field (.ref z) 2 >>= _) _ _ _
  refine wpAny_bind (wpAny_field hz rfl (x := .bool false) rfl ?_)
  show wpAny _ _ (field (.ref z) 3 >>= _) _ _ _
  refine wpAny_bind (wpAny_field hz rfl (x := .ref TI) rfl ?_)
  refine wpAny_bind (wpAny_seqItems hTI rfl ?_)
  show wpAny _ _ (SmallTypes.ownedTupleIsFree (.ref z) >>= _) _ _ _
  refine wpAny_bind (z_free hz hg ?_ fun H1 z1 s1 => ?_)
  · -- the pair is free: it is filled again, and a new one is given out
    simp only [if_true]
    refine wpAny_bind (wpAny_rule ?_)
    refine wpAny_bind (wpAny_field hz rfl (x := .ref TO) rfl ?_)
    refine wpAny_bind (wpAny_setField_rec hz (by simp) fun H1 z1 s1 => ?_)
    replace z1 : ZR H1 z TI TO .ellipsis f1 := z1
    refine wpAny_bind ?_
    simp only [List.zipIdx_cons, List.zipIdx_nil, List.forIn_cons, List.forIn_nil]
    refine wpAny_bind (wpAny_bind (wpAny_onRaise ?_))
    show wpAny _ _ (SmallTypes.nextOf (.ref i1) >>= _) _ _ _
    refine wpAny_bind (nextOf_tuple_item (h1.extBut s1.extBut D.i1z) (hl1.extBut s1.extBut D.l1z) hx fun H2 n1 s2 => wpAny_pure ?_)
    have o2 : IsPair H2 TO a b := s2.extBut _ _ D.TOi1 (s1.extBut _ _ D.TOz hTO)
    refine wpAny_bind (wpAny_seqItems o2 rfl ?_)
    refine wpAny_bind (wpAny_updateSeq_pair o2 fun H3 o3 s3 => ?_)
    replace o3 : IsPair H3 TO x b := o3
    refine wpAny_bind (wpAny_letGo (wpAny_pure ?_))
    refine wpAny_bind (wpAny_bind (wpAny_onRaise ?_))
    show wpAny _ _ (SmallTypes.nextOf (.ref i2) >>= _) _ _ _
    refine wpAny_bind (nextOf_tuple_item (((h2.extBut s1.extBut D.i2z).extBut s2.extBut D.i12.symm).extBut s3.extBut D.TOi2.symm)
      (((hl2.extBut s1.extBut D.l2z).extBut s2.extBut D.l2i1).extBut s3.extBut D.l2TO) hy fun H4 n2 s4 => wpAny_pure ?_)
    have o4 : IsPair H4 TO x b := s4.extBut _ _ D.TOi2 o3
    refine wpAny_bind (wpAny_seqItems o4 rfl ?_)
    refine wpAny_bind (wpAny_updateSeq_pair o4 fun H5 o5 s5 => ?_)
    replace o5 : IsPair H5 TO x y := o5
    refine wpAny_bind (wpAny_letGo (wpAny_pure (wpAny_pure ?_)))
    refine wpAny_bind (wpAny_seqItems o5 rfl ?_)
    refine wpAny_bind (wpAny_newTuple ?_)
    have hsz : H5.objs.size = s.heap.objs.size := by rw [s5.1, s4.1, s3.1, s2.1, s1.1]
    have z5 : ZR H5 z TI TO .ellipsis f1 := s5.extBut _ _ D.TOz.symm (s4.extBut _ _ D.i2z.symm (s3.extBut _ _ D.TOz.symm (s2.extBut _ _ D.i1z.symm z1)))
    have k5 : ∀ c o, c ≠ z → c ≠ TO → c ≠ i1 → c ≠ i2 → s.heap.get? c = some o → H5.get? c = some o := fun c o c1 c2 c3 c4 e =>
      s5.extBut _ _ c2 (s4.extBut _ _ c4 (s3.extBut _ _ c2 (s2.extBut _ _ c3 (s1.extBut _ _ c1 e))))
    have m1 : H5.IsTupleIter i1 l1 (k1 + 1) := ((n1.extBut s3.extBut D.TOi1.symm).extBut s4.extBut D.i12).extBut s5.extBut D.TOi1.symm
    have m2 : H5.IsTupleIter i2 l2 (k2 + 1) := n2.extBut s5.extBut D.TOi2.symm
    have hzlt : z < H5.objs.size := Heap.lt_size z5
    show wpAny _ _ (SmallTypes.ownedTupleHandOut (.ref z) (.ref H5.objs.size) >>= _) _ _ _
    refine wpAny_bind ?_
    unfold SmallTypes.ownedTupleHandOut
    have z6 : ZR (H5.push { cls := .type "tuple", data := .seq #[x, y] }) z TI TO .ellipsis f1 := Heap.get?_push_of_some _ z5
    refine wpAny_bind (wpAny_setField_rec z6 (by simp) fun H7 z7 s7 => ?_)
    replace z7 : ZR H7 z TI TO (rawInt H5.objs.size) f1 := z7
    refine wpAny_setField_rec z7 (by simp) fun H8 z8 s8 => ?_
    replace z8 : ZR H8 z TI TO (rawInt H5.objs.size) false := z8
    have up : ∀ c o, c ≠ z → H5.get? c = some o → H8.get? c = some o := fun c o c1 e => s8.extBut _ _ c1 (s7.extBut _ _ c1 (Heap.get?_push_of_some _ e))
    have t8 : IsPair H8 H5.objs.size x y := s8.extBut _ _ (Nat.ne_of_gt hzlt) (s7.extBut _ _ (Nat.ne_of_gt hzlt) (Heap.get?_push_size _ rfl))
    rw [hsz] at z8 t8
    refine wpAny_pure ⟨_, rfl, ?_⟩
    show Q (.ref H5.objs.size) _
    rw [hsz]
    exact hQ H8 _ _ z8 (.inr ⟨_, rfl⟩) ⟨x, y, up _ _ D.TOz o5⟩ (m1.at fun o e => up _ o D.i1z e) (m2.at fun o e => up _ o D.i2z e) t8 fun c o c1 c2 c3 c4 e => up c o c1 (k5 c o c1 c2 c3 c4 e)
  · -- the pair is kept: a new one
    simp only [Bool.false_eq_true, if_false]
    refine wpAny_bind ?_
    rw [← Array.forIn_toList]
    simp only [List.forIn_cons, List.forIn_nil]
    refine wpAny_bind (wpAny_bind (wpAny_holding ?_))
    show wpAny _ _ (SmallTypes.nextOf (.ref i1) >>= _) _ _ _
    refine wpAny_bind (nextOf_tuple_item (s := { s with heap := H1 }) (h1.extBut s1.extBut D.i1z) (hl1.extBut s1.extBut D.l1z) hx fun H2 n1 s2 => wpAny_pure ?_)
    refine wpAny_pure ?_
    refine wpAny_bind (wpAny_bind (wpAny_holding ?_))
    show wpAny _ _ (SmallTypes.nextOf (.ref i2) >>= _) _ _ _
    refine wpAny_bind (nextOf_tuple_item (s := { s with heap := H2 }) ((h2.extBut s1.extBut D.i2z).extBut s2.extBut D.i12.symm) ((hl2.extBut s1.extBut D.l2z).extBut s2.extBut D.l2i1) hy fun H3 n2 s3 => wpAny_pure ?_)
    refine wpAny_pure (wpAny_pure ?_)
    show wpAny _ _ (newTuple [x, y] >>= _) _ _ _
    refine wpAny_bind (wpAny_newTuple ?_)
    have hsz : H3.objs.size = s.heap.objs.size := by rw [s3.1, s2.1, s1.1]
    have z3 : ZR H3 z TI TO f0 true := s3.extBut _ _ D.i2z.symm (s2.extBut _ _ D.i1z.symm z1)
    have k3 : ∀ c o, c ≠ z → c ≠ i1 → c ≠ i2 → s.heap.get? c = some o → H3.get? c = some o := fun c o c1 c2 c3 e => s3.extBut _ _ c3 (s2.extBut _ _ c2 (s1.extBut _ _ c1 e))
    have m1 : H3.IsTupleIter i1 l1 (k1 + 1) := n1.extBut s3.extBut D.i12
    have o3 : IsPair H3 TO a b := k3 _ _ D.TOz D.TOi1 D.TOi2 hTO
    refine wpAny_pure ⟨_, rfl, ?_⟩
    show Q (.ref H3.objs.size) _
    have hp : IsPair (H3.push { cls := .type "tuple", data := .seq #[x, y] }) H3.objs.size x y := Heap.get?_push_size _ rfl
    rw [hsz] at hp ⊢
    exact hQ _ _ _ (Heap.get?_push_of_some _ z3) hg ⟨a, b, Heap.get?_push_of_some _ o3⟩ (m1.at fun o e => Heap.get?_push_of_some _ e) (n2.at fun o e => Heap.get?_push_of_some _ e) hp fun c o c1 _ c3 c4 e => Heap.get?_push_of_some _ (k3 c o c1 c3 c4 e)
theorem z_end {z TI TO i1 i2 l1 l2 : Addr} {f0 : Value} {f1 : Bool} {k1 k2 : Nat} {xs ys : Array Value} {a b : Value} {Q : Fin → Shared → Prop} (hh : A.handled = none) (D : ZipApart z TI TO i1 i2 l1 l2)
    (hz : ZR s.heap z TI TO f0 f1) (hg : Given f0) (hTI : IsPair s.heap TI (.ref i1) (.ref i2)) (hTO : IsPair s.heap TO a b)
    (h1 : s.heap.IsTupleIter i1 l1 k1) (hl1 : s.heap.IsTuple l1 xs) (hx : xs[k1]? = none)
    (hE : ∀ h' e, (∀ c o, c ≠ z → c ≠ TO → c ≠ i1 → c ≠ i2 → s.heap.get? c = some o → h'.get? c = some o) → (∃ o, h'.get? e = some o ∧ o.cls = .type "StopIteration") → E (.ref e) { s with heap := h' }) :
    wpAny (model prog w) A (Builtin.«zip.__next__» ⟨[.ref z], []⟩) Q E s := by
  show wpAny _ _ (field (.ref z) 2 >>= _) _ _ _
  refine wpAny_bind (wpAny_field hz rfl (x := .bool false) rfl ?_)
  show wpAny _ _ (field (.ref z) 3 >>= _) _ _ _
  refine wpAny_bind (wpAny_field hz rfl (x := .ref TI) rfl ?_)
  refine wpAny_bind (wpAny_seqItems hTI rfl ?_)
  show wpAny _ _ (SmallTypes.ownedTupleIsFree (.ref z) >>= _) _ _ _
  refine wpAny_bind (z_free hz hg ?_ fun H1 z1 s1 => ?_)
  · simp only [if_true]
    refine wpAny_bind (wpAny_rule ?_)
    refine wpAny_bind (wpAny_field hz rfl (x := .ref TO) rfl ?_)
    refine wpAny_bind (wpAny_setField_rec hz (by simp) fun H1 z1 s1 => ?_)
    replace z1 : ZR H1 z TI TO .ellipsis f1 := z1
    refine wpAny_bind ?_
    simp only [List.zipIdx_cons, List.zipIdx_nil, List.forIn_cons, List.forIn_nil]
    refine wpAny_bind (wpAny_bind (wpAny_onRaise ?_))
    show wpAny _ _ (SmallTypes.nextOf (.ref i1) >>= _) _ _ _
    refine wpAny_bind (nextOf_tuple_end hh (h1.extBut s1.extBut D.i1z) (hl1.extBut s1.extBut D.l1z) hx fun H2 e s2 he => ?_)
    obtain ⟨oe, hoe, hce⟩ := he
    have z2 : ZR H2 z TI TO .ellipsis f1 := s2 _ _ D.i1z.symm z1
    have hez : e ≠ z := fun q => by subst q; rw [z2] at hoe; cases hoe; simp at hce
    refine wpAny_setField_rec z2 (by simp) fun H3 _ s3 => hE H3 e (fun c o c1 _ c3 _ q => s3.extBut _ _ c1 (s2 _ _ c3 (s1.extBut _ _ c1 q))) ⟨oe, s3.extBut _ _ hez hoe, hce⟩
  · simp only [Bool.false_eq_true, if_false]
    refine wpAny_bind ?_
    rw [← Array.forIn_toList]
    simp only [List.forIn_cons, List.forIn_nil]
    refine wpAny_bind (wpAny_bind (wpAny_holding ?_))
    show wpAny _ _ (SmallTypes.nextOf (.ref i1) >>= _) _ _ _
    refine wpAny_bind (nextOf_tuple_end (s := { s with heap := H1 }) hh (h1.extBut s1.extBut D.i1z) (hl1.extBut s1.extBut D.l1z) hx fun H2 e s2 he => ?_)
    exact hE H2 e (fun c o c1 _ c3 _ q => s2 _ _ c3 (s1.extBut _ _ c1 q)) he
theorem z_next_item {z TI TO i1 i2 l1 l2 : Addr} {f0 : Value} {f1 : Bool} {k1 k2 : Nat} {xs ys : Array Value} {x y a b : Value} {Q : Option Value → Shared → Prop} (D : ZipApart z TI TO i1 i2 l1 l2)
    (hz : ZR s.heap z TI TO f0 f1) (hg : Given f0) (hTI : IsPair s.heap TI (.ref i1) (.ref i2)) (hTO : IsPair s.heap TO a b)
    (h1 : s.heap.IsTupleIter i1 l1 k1) (h2 : s.heap.IsTupleIter i2 l2 k2) (hl1 : s.heap.IsTuple l1 xs) (hl2 : s.heap.IsTuple l2 ys) (hx : xs[k1]? = some x) (hy : ys[k2]? = some y)
    (hQ : ∀ h' g0 g1, ZR h' z TI TO g0 g1 → Given g0 → (∃ a b, IsPair h' TO a b) → h'.IsTupleIter i1 l1 (k1 + 1) → h'.IsTupleIter i2 l2 (k2 + 1) → IsPair h' s.heap.objs.size x y →
      (∀ c o, c ≠ z → c ≠ TO → c ≠ i1 → c ≠ i2 → s.heap.get? c = some o → h'.get? c = some o) → Q (some (.ref s.heap.objs.size)) { s with heap := h' }) :
    wpAny (model prog w) A (pyNext (.ref z)) Q E s := by
  have hT : s.TypeIs (.ref z) "zip" := ⟨_, hz, rfl⟩
  unfold pyNext
  exact wpAny_bind (wpAny_attempt (wpAny_callSpecial?_slot (name := Str.ofString "__next__") hT F.slot_zip_next
    (wpAny_call_entry F.slot_zip_next hT F.entry_zip_next
      (z_item D hz hg hTI hTO h1 h2 hl1 hl2 hx hy fun h' g0 g1 a1 a2 a3 a4 a5 a6 a7 => wpAny_pure (hQ h' g0 g1 a1 a2 a3 a4 a5 a6 a7)) (F.args_zip_next_1 _))))
theorem z_next_end {z TI TO i1 i2 l1 l2 : Addr} {f0 : Value} {f1 : Bool} {k1 k2 : Nat} {xs ys : Array Value} {a b : Value} {Q : Option Value → Shared → Prop} (hh : A.handled = none) (D : ZipApart z TI TO i1 i2 l1 l2)
    (hz : ZR s.heap z TI TO f0 f1) (hg : Given f0) (hTI : IsPair s.heap TI (.ref i1) (.ref i2)) (hTO : IsPair s.heap TO a b)
    (h1 : s.heap.IsTupleIter i1 l1 k1) (hl1 : s.heap.IsTuple l1 xs) (hx : xs[k1]? = none)
    (hQ : ∀ h', (∀ c o, c ≠ z → c ≠ TO → c ≠ i1 → c ≠ i2 → s.heap.get? c = some o → h'.get? c = some o) → Q none { s with heap := h' }) : wpAny (model prog w) A (pyNext (.ref z)) Q E s := by
  have hT : s.TypeIs (.ref z) "zip" := ⟨_, hz, rfl⟩
  unfold pyNext
  refine wpAny_bind (wpAny_attempt (wpAny_callSpecial?_slot (name := Str.ofString "__next__") hT F.slot_zip_next
    (wpAny_call_entry F.slot_zip_next hT F.entry_zip_next (z_end (k2 := k2) (ys := ys) hh D hz hg hTI hTO h1 hl1 hx fun h' e hk he => ?_) (F.args_zip_next_1 _))))
  obtain ⟨o, ho, hc⟩ := he
  refine wpAny_bind (wpAny_isInstance (T := "StopIteration") (b := true) ⟨o, ho, hc⟩ isSubtype_stop ?_)
  exact wpAny_pure (hQ _ hk)
end
end Dr

namespace Dr
open PySem PySem.Spec PyProof.Rows L2 RZ
/-- zip of the tuples at a and b, the pair of a turn under one name -/
def ItzN (K : PySem.W.Frag) (a b : Addr) : It :=
  ⟨fun i H => ∃ (xs ys : List V) (x y : V), SqT K H a xs ∧ SqT K H b ys ∧ xs[i]? = some x ∧ ys[i]? = some y,
    fun i H v H' => ∃ T x y, v = .ref T ∧ H T = none ∧ H' = upd H T (.tup [x, y]) ∧ (∀ xs, SqT K H a xs → xs[i]? = some x) ∧ ∀ ys, SqT K H b ys → ys[i]? = some y,
    fun i H => ∃ xs : List V, SqT K H a xs ∧ xs.length ≤ i⟩
def ZSt (z TI TO i1 i2 a b : Addr) (i : Nat) (h : Heap) : Prop :=
  (∃ f0 f1, ZR h z TI TO f0 f1 ∧ Given f0) ∧ IsPair h TI (.ref i1) (.ref i2) ∧ (∃ x y, IsPair h TO x y) ∧ h.IsTupleIter i1 a i ∧ h.IsTupleIter i2 b i
theorem go_name {M : Model} {A : Around} {E : Value → Shared → Prop} {s : Shared} {x : Str} {pos : Pos} {it v : Value} {Q : Unit → Shared → Prop} (h : Q () s) : wpAny M A (letOwnedTupleGo (.Name x pos) it v) Q E s := by
  unfold letOwnedTupleGo
  exact wpAny_pure h
theorem pyIter_z {prog : Program} {w : World} {A : Around} {E : Value → Shared → Prop} {s : Shared} {z TI TO : Addr} {f0 : Value} {f1 : Bool} {Q : Value → Shared → Prop} (hz : ZR s.heap z TI TO f0 f1) (h : Q (.ref z) s) : wpAny (model prog w) A (pyIter (.ref z)) Q E s := by
  have hT : s.TypeIs (.ref z) "zip" := ⟨_, hz, rfl⟩
  refine wpAny_pyIter_slot hT F.slot_zip_iter (wpAny_call_entry F.slot_zip_iter hT F.entry_zip_iter ?_ (F.args_zip_iter_1 _))
  show wpAny _ _ (ret (.ref z)) _ _ s
  exact wpAny_pure ⟨_, rfl, "zip", _, hT, F.slot_zip_next.lookup, h⟩
theorem turn_zN {P : Program} {w : World} {K : PySem.W.Frag} {x : Str} {pos : Pos} {a b z TI TO i1 i2 : Addr} (D : ZipApart z TI TO i1 i2 a b) :
    Turn P w K (.Name x pos) (ItzN K a b) [z, TI, TO, i1, i2] z (ZSt z TI TO i1 i2 a b) where
  mem := by simp
  obj := fun i h st c hc => by
    obtain ⟨⟨f0, f1, hz, _⟩, hTI, ⟨x, y, hTO⟩, ⟨o1, e1, _, d1⟩, ⟨o2, e2, _, d2⟩⟩ := st
    have e' : c = z ∨ c = TI ∨ c = TO ∨ c = i1 ∨ c = i2 := by simpa using hc
    rcases e' with q | q | q | q | q
    · rw [q]; exact ⟨_, hz, fun v q => nomatch q⟩
    · rw [q]; exact ⟨_, hTI, fun v q => nomatch q⟩
    · rw [q]; exact ⟨_, hTO, fun v q => nomatch q⟩
    · rw [q]; exact ⟨o1, e1, fun v q => by rw [d1] at q; cases q⟩
    · rw [q]; exact ⟨o2, e2, fun v q => by rw [d2] at q; cases q⟩
  keep := fun i h h' st k => by
    obtain ⟨⟨f0, f1, hz, hg⟩, hTI, ⟨x, y, hTO⟩, h1, h2⟩ := st
    exact ⟨⟨f0, f1, k z (by simp) _ hz, hg⟩, k TI (by simp) _ hTI, ⟨x, y, k TO (by simp) _ hTO⟩, h1.at fun o q => k i1 (by simp) o q, h2.at fun o q => k i2 (by simp) o q⟩
  item := by
    intro X hP hw hK hc i pins s σ H E I hf st hg
    subst hP hw hK
    obtain ⟨⟨f0, f1, hz, hgv⟩, hTI, ⟨x0, y0, hTO⟩, h1, h2⟩ := st
    obtain ⟨xs, ys, x, y, hqx, hqy, hx, hy⟩ := hg
    obtain ⟨its, rv, p, _⟩ := I.tuple hqx
    obtain ⟨its2, rv2, p2, _⟩ := I.tuple hqy
    obtain ⟨u, hu, ru⟩ := rv.get hx
    obtain ⟨u2, hu2, ru2⟩ := rv2.get hy
    have hzl : z < s.heap.objs.size := Heap.lt_size hz
    refine z_next_item D hz hgv hTI hTO h1 h2 p p2 (x := u) (y := u2) (by simpa using hu) (by simpa using hu2) fun h' g0 g1 z' hg0 TO' h1' h2' hT hk => ?_
    refine ⟨_, rfl, go_name ?_⟩
    have new : ObjOk X.prog X.w (upd H s.heap.objs.size (.tup [x, y])) h' s.heap.objs.size (.tup [x, y]) :=
      ⟨by show 2 ≤ sizeLine; decide, [u, u2], .cons ru (.cons ru2 .nil), ⟨_, hT, rfl, _, rfl⟩⟩
    have I1 : Inv X pins σ (upd H s.heap.objs.size (.tup [x, y])) { s with heap := h' } :=
      I.turnedNew (t' := s.toks) (ch := [z, TI, TO, i1, i2]) (fun c o hb q => hk c o (fun q' => hb (by simp [q'])) (fun q' => hb (by simp [q'])) (fun q' => hb (by simp [q'])) (fun q' => hb (by simp [q'])) q) hf (Nat.le_refl _) new
    refine ⟨.ref s.heap.objs.size, _, I1, rfl, ⟨_, x, y, rfl, I.hok.fresh (Nat.le_refl _), rfl, fun l hl => by rw [I.tuple_inj hl hqx]; exact hx, fun l hl => by rw [I.tuple_inj hl hqy]; exact hy⟩, ⟨⟨g0, g1, z', hg0⟩, ?_, TO', h1', h2'⟩, fun c hcm => ?_⟩
    · exact hk _ _ D.TIz D.TITO D.TIi1 D.TIi2 hTI
    · have hlt : c < s.heap.objs.size := by
        have e' : c = z ∨ c = TI ∨ c = TO ∨ c = i1 ∨ c = i2 := by simpa using hcm
        rcases e' with q | q | q | q | q
        · rw [q]; exact hzl
        · rw [q]; exact Heap.lt_size hTI
        · rw [q]; exact Heap.lt_size hTO
        · rw [q]; obtain ⟨_, e1, _⟩ := h1; exact Heap.lt_size e1
        · rw [q]; obtain ⟨_, e2, _⟩ := h2; exact Heap.lt_size e2
      rw [upd_ne (Nat.ne_of_lt hlt)]
      exact (hf c hcm).1
  done := by
    intro X hP hw hK hc i pins s σ H E I hf st hg
    subst hP hw hK
    obtain ⟨⟨f0, f1, hz, hgv⟩, hTI, ⟨x0, y0, hTO⟩, h1, h2⟩ := st
    obtain ⟨xs, hqx, hend⟩ := hg
    obtain ⟨its, rv, p, _⟩ := I.tuple hqx
    have l1 := rv.length
    exact z_next_end (i2 := i2) (l2 := b) (k2 := i) (ys := #[]) (I.ok.hd hc) D hz hgv hTI hTO h1 p (by simp; omega) fun h' hk => ⟨rfl, I.turnedL (t' := s.toks) (ch := [z, TI, TO, i1, i2]) (fun c o hb q =>
      hk c o (fun q' => hb (by simp [q'])) (fun q' => hb (by simp [q'])) (fun q' => hb (by simp [q'])) (fun q' => hb (by simp [q'])) q) hf⟩
  self := fun A i s Q E st h => by
    obtain ⟨⟨f0, f1, hz, _⟩, _⟩ := st
    exact pyIter_z hz h
def iZipN (K : PySem.W.Frag) (ta : TA) : TI := fun σ H R => ta σ H fun vs H1 => ∃ a b xs ys, vs = [.ref a, .ref b] ∧ SqT K H1 a xs ∧ SqT K H1 b ys ∧ R (ItzN K a b) H1
theorem pi_zipN {X : Cx} {e e2 : Expr} {ta : TA} {x : Str} {p pos tpos : Pos} (hg : Gl X "zip") (hm : X.mg "zip" = none) (ha : PA X [e, e2] ta)
    (hs : starEach [e, e2] X.env = (false, eval e X.env) :: starEach [e2] X.env := by rfl) (hpl : (backTo pos (starEach [e2] X.env)).any (·.1) = false := by rfl) :
    PI X (.Name x tpos) (.Call (.Name "zip" p) [e, e2] [] pos) (iZipN X.K ta) := by
  refine ⟨fun pins s σ H R I h => ?_⟩
  refine Call_ (ld_blt I hg hm PyProof.Rows.boot_zip (PyProof.Rows.callWith_type1 (thn (ha.run pos pins s σ H _ I h) fun us s1 ⟨vs, H1, I1, r1, q1⟩ => ?_) hs hpl))
  obtain ⟨a, b, xs, ys, ex, hqx, hqy, q⟩ := q1
  subst ex
  cases r1 with
  | cons r rr =>
    cases rr with
    | cons r' rr =>
      cases rr
      cases r
      cases r'
      have fresh5 : ∀ c, c ∈ [s1.heap.objs.size + 4, s1.heap.objs.size + 2, s1.heap.objs.size + 3, s1.heap.objs.size, s1.heap.objs.size + 1] → FpOk X pins H1 c := fun c hcm => by
        have e' : c = s1.heap.objs.size + 4 ∨ c = s1.heap.objs.size + 2 ∨ c = s1.heap.objs.size + 3 ∨ c = s1.heap.objs.size ∨ c = s1.heap.objs.size + 1 := by simpa using hcm
        have hle : s1.heap.objs.size ≤ c := by
          rcases e' with z | z | z | z | z
          · rw [z]; exact Nat.le_add_right _ _
          · rw [z]; exact Nat.le_add_right _ _
          · rw [z]; exact Nat.le_add_right _ _
          · rw [z]; exact Nat.le_refl _
          · rw [z]; exact Nat.le_add_right _ _
        exact I1.fpOk hle (I1.hok.fresh hle)
      obtain ⟨its, rv, p1, _⟩ := I1.tuple hqx
      obtain ⟨its2, rv2, p2, _⟩ := I1.tuple hqy
      obtain ⟨o1, ho1, _⟩ := id p1
      obtain ⟨o2, ho2, _⟩ := id p2
      refine call_zipT (show s1.heap.IsTuple a its.toArray from p1) (show s1.heap.IsTuple b its2.toArray from p2) fun h' hz hTI hTO h1 h2 hsz hk => wpAny_pyIter_zip hz ?_
      have I2 : Inv X pins σ H1 { s1 with heap := h' } := I1.kept (t' := s1.toks) hk
      exact ⟨s1.heap.objs.size + 4, [s1.heap.objs.size + 4, s1.heap.objs.size + 2, s1.heap.objs.size + 3, s1.heap.objs.size, s1.heap.objs.size + 1], _, _, H1, rfl, I2, turn_zN (PySem.W.ktu_apart s1.heap.objs.size a b (Heap.lt_size ho1) (Heap.lt_size ho2)), ⟨⟨.none, false, hz, .inl rfl⟩, hTI, ⟨_, _, hTO⟩, h1, h2⟩, fresh5, q⟩
theorem for_zipN {K : PySem.W.Frag} {a b : Addr} {xs ys : List V} {g : TG} {tb : TS} {D : Ends} {σ : L2.St} {H : Hp} (hl : xs.length = ys.length) (Pv : Nat → L2.St → Hp → Prop) (h0 : Pv 0 σ H) (hq : ∀ i σ H, Pv i σ H → SqT K H a xs ∧ SqT K H b ys)
    (hs : ∀ (i : Nat) (x y : V) (T : Addr) (σ : L2.St) (H : Hp), xs[i]? = some x → ys[i]? = some y → Pv i σ H → H T = none → g (.ref T) σ (upd H T (.tup [x, y])) fun σ2 H2 => tb { D with nx := Pv (i + 1), ct := Pv (i + 1), bk := D.nx } σ2 H2) (hd : ∀ σ H, Pv xs.length σ H → D.nx σ H) :
    ∃ W : Nat → Nat → L2.St → Hp → Prop, (∃ m, W 0 m σ H) ∧ ∀ i m σ H, W i m σ H →
      ((ItzN K a b).stop i H ∧ D.nx σ H) ∨ ((ItzN K a b).go i H ∧ ∃ N : L2.St → Hp → Prop, (∀ σ' H', N σ' H' → ∃ m', m' < m ∧ W (i + 1) m' σ' H') ∧ ∀ v H', (ItzN K a b).yld i H v H' → g v σ H' fun σ2 H2 => tb { D with nx := N, ct := N, bk := D.nx } σ2 H2) := by
  refine ⟨fun i m σ H => m = xs.length - i ∧ i ≤ xs.length ∧ Pv i σ H, ⟨xs.length, rfl, Nat.zero_le _, h0⟩, ?_⟩
  rintro i m σ H ⟨rfl, hi, p⟩
  obtain ⟨qx, qy⟩ := hq i σ H p
  by_cases hlt : i < xs.length
  · have hx : xs[i]? = some xs[i] := List.getElem?_eq_getElem hlt
    have hlt2 : i < ys.length := by omega
    have hy : ys[i]? = some ys[i] := List.getElem?_eq_getElem hlt2
    refine .inr ⟨⟨xs, ys, _, _, qx, qy, hx, hy⟩, Pv (i + 1), fun σ' H' p' => ⟨xs.length - (i + 1), by omega, rfl, hlt, p'⟩, fun v H' yl => ?_⟩
    obtain ⟨T, x, y, rfl, nT, rfl, fx, fy⟩ := yl
    exact hs i x y T σ H (fx xs qx) (fy ys qy) p nT
  · have e : i = xs.length := by omega
    subst e
    exact .inl ⟨⟨xs, qx, Nat.le_refl _⟩, hd σ H p⟩
end Dr

namespace Dr
open PySem PySem.Spec PyProof.Rows L2
open Vapcma (Form)
section
variable {P : Program} {w : World} {K : PySem.W.Frag} {mg : Str → Option Value} {base : Heap} {L : Lay}
theorem sq_at {K : PySem.W.Frag} {H H' : Hp} {a : Addr} {xs : List V} (e : ∀ o, H a = some o → H' a = some o) (h : SqL K H a xs) : SqL K H' a xs := by
  rcases h with (h | ⟨o, h⟩) | h
  · exact .inl (.inl (e _ h))
  · exact .inl (.inr ⟨o, e _ h⟩)
  · exact .inr h
theorem last_revm (y : Nat) (r : List Nat) : ((y :: r).reverse.map iv)[((y :: r).reverse.map iv).length - 1]? = some (iv y) := by simp
theorem drop_revm (y : Nat) (r : List Nat) : ((y :: r).reverse.map iv).dropLast = r.reverse.map iv := by simp [List.map_append]
def keyN (v : Nat) : Key := Sum.inl ((v + 2 : Nat) : Int)
def kvsN (ks : List (Nat × Nat)) : List (Key × V) := ks.map fun e => (keyN e.1, iv e.2)
theorem keyN_inj {a b : Nat} (h : keyN a = keyN b) : a = b := by
  have := Sum.inl.inj h
  omega
theorem kvsN_old : ∀ {ks : List (Nat × Nat)} {v : Nat}, v ∈ ks.map Prod.fst → valV (kvsN ks) (keyN v) = some (iv (mOf ks v))
  | [], v, h => by simp at h
  | (a, b) :: ks, v, h => by
    by_cases e : a = v
    · subst e
      have : mOf ((a, b) :: ks) a = b := by simp [mOf, List.lookup]
      rw [this]
      exact valV_pos rfl
    · have ne : ¬ keyN a = keyN v := fun z => e (keyN_inj z)
      have h' : v ∈ ks.map Prod.fst := by
        simp only [List.map_cons, List.mem_cons] at h
        rcases h with h | h
        · exact absurd h.symm e
        · exact h
      have e' : (v == a) = false := by rw [beq_eq_false_iff_ne]; exact fun z => e z.symm
      have : mOf ((a, b) :: ks) v = mOf ks v := by simp [mOf, List.lookup, e']
      rw [this]
      show valV ((keyN a, iv b) :: kvsN ks) (keyN v) = _
      rw [valV_neg ne]
      exact kvsN_old h'
theorem kvsN_new : ∀ {ks : List (Nat × Nat)} {v : Nat}, v ∉ ks.map Prod.fst → valV (kvsN ks) (keyN v) = none
  | [], v, h => rfl
  | (a, b) :: ks, v, h => by
    simp only [List.map_cons, List.mem_cons, not_or] at h
    have ne : ¬ keyN a = keyN v := fun z => h.1 (keyN_inj z).symm
    show valV ((keyN a, iv b) :: kvsN ks) (keyN v) = _
    rw [valV_neg ne]
    exact kvsN_new h.2
def sp_add_formula (K : PySem.W.Frag) (L : Lay) : Sp := fun vs H Q _ => ∃ (n : NAd) (N : Net) (a : Addr) (f : Form), vs = [.ref n.a, .ref a] ∧ NetAt H L n N (List.range N.hs.length) ∧ N.Wf ∧ SqL K H a (encV f) ∧ ¬ NetS n a ∧
  N.hs.length ≤ 1000 ∧ Vapcma.size f ≤ 1000 ∧
  ∀ H' N' m r, NetAt H' L n N' (List.range N'.hs.length) → Put N N' m r f → N'.hs.length ≤ N.hs.length + Vapcma.size f → Fr (NetS n) H H' → Q (iv r) H'
abbrev s_Net_add_formula : Stmt := inClass (top 16) 2
theorem sc_Net_add_formula : FnScope ["self", "formula", "unknowns", "ready", "sign", "first", "second"] ["self", "formula"] (defScope s_Net_add_formula) := ⟨rfl, rfl, rfl, by decide +kernel, rfl, by decide +kernel, by decide +kernel⟩
theorem ok_Net_add_formula {f : Addr} {fd : FuncData} (F : Fun K "add_formula" "Net.add_formula" s_Net_add_formula f fd) (T : Txt K mg L) (h_add_node : HasMeth P w K mg base CX0 1 L.Net "add_node" ["self", "head", "parts"] (sp_add_node L)) :
    FnOk P w K mg base CX0 2 f fd ["self", "formula"] (sp_add_formula K L) := by
  refine F.ok sc_Net_add_formula (fun vs H Q E h => ?_) (fun cdv A outer s H vs Q E hr h => ?_)
  · obtain ⟨n, N, a, f, rfl, _⟩ := h
    rfl
  · obtain ⟨t0, g_IMPLIES⟩ := T.vIMPLIES
    obtain ⟨t1, g_DENIES⟩ := T.vDENIES
    obtain ⟨t2, g_FIRST_UNKNOWN⟩ := T.vFIRST_UNKNOWN
    have n_reversed := T.n_reversed
    have hu := hu_of hr
    obtain ⟨f_add, fd_add, M_Net_add_node, b_Net_add_node, G_Net_add_node⟩ := h_add_node
    refine ⟨_, pss_cons (ps_set (i := 2) sc_Net_add_formula.nd rfl (Or.inl rfl) pe_dnewK)
      (pss_cons (ps_set (i := 3) sc_Net_add_formula.nd rfl (Or.inl rfl) (pe_lst pa_nil))
      (pss_cons (ps_for PassesOwn.never rfl (pi_reversed (by rfl) n_reversed (pa_cons (pv 1) pa_nil)) (pg_name (i := 4) sc_Net_add_formula.nd rfl (Or.inl rfl))
        (pss_one (ps_if (pt_cmpR op_eq (pv 4) (pe_gi g_IMPLIES) (nomark _))
            (pss_cons (ps_set (i := 5) sc_Net_add_formula.nd rfl (Or.inl rfl) (pe_bm0 PySem.F.plainAttrs_list PySem.F.slot_list_pop PySem.F.type_list_pop mt_pop (pv 3)))
              (pss_cons (ps_set (i := 6) sc_Net_add_formula.nd rfl (Or.inl rfl) (pe_bm0 PySem.F.plainAttrs_list PySem.F.slot_list_pop PySem.F.type_list_pop mt_pop (pv 3)))
              (pss_one (ps_expr (pe_bm PySem.F.plainAttrs_list PySem.F.slot_list_append PySem.F.type_list_append mt_append (pv 3) (pa_cons (pe_meth (pv 0) T.cNet M_Net_add_node G_Net_add_node (hr.mono (by decide)) b_Net_add_node .nil pass0 (pa_cons (pe_gi g_IMPLIES) (pa_cons (pe_tup (pa_cons (pv 5) (pa_cons (pv 6) pa_nil))) pa_nil))) pa_nil))))))
            (pss_one (ps_if (pt_cmpR op_eq (pv 4) (pe_gi g_DENIES) (nomark _))
                (pss_one (ps_expr (pe_bm PySem.F.plainAttrs_list PySem.F.slot_list_append PySem.F.type_list_append mt_append (pv 3) (pa_cons (pe_meth (pv 0) T.cNet M_Net_add_node G_Net_add_node (hr.mono (by decide)) b_Net_add_node .nil pass0 (pa_cons (pe_gi g_DENIES) (pa_cons (pe_tup (pa_cons (pe_bm0 PySem.F.plainAttrs_list PySem.F.slot_list_pop PySem.F.type_list_pop mt_pop (pv 3)) pa_nil)) pa_nil))) pa_nil))))
                (pss_cons (ps_if (pt_cmp (pc_dnotin hu (pv 4) (pv 2)))
                    (pss_one (ps_dput hu (pv 2) (pv 4) (pe_meth (pv 0) T.cNet M_Net_add_node G_Net_add_node (hr.mono (by decide)) b_Net_add_node .nil pass0 (pa_cons (pe_gi g_FIRST_UNKNOWN) (pa_cons (pe_tup pa_nil) pa_nil))) rfl))
                    (pss_nil))
                  (pss_one (ps_expr (pe_bm PySem.F.plainAttrs_list PySem.F.slot_list_append PySem.F.type_list_append mt_append (pv 3) (pa_cons (pe_dget hu (pv 2) (pv 4) (fun _ _ => rfl)) pa_nil))))))))))
      (pss_one (ps_ret (pe_ix ix_list (pv 3) pe_int (fun _ _ => rfl)))))), ?_⟩
    obtain ⟨n, N, a, f, rfl, hN, hW, hs, hna, hz1, hz2, k⟩ := h
    have hl : (encV f).length = Vapcma.size f := by rw [encV, List.length_map, enc_length]
    intro d nd
    refine ⟨(by decide), fun p np => ?_⟩
    have ndp : d ≠ p := ne_of_none upd_same np
    have np0 : H p = none := by rw [upd_ne (Ne.symm ndp)] at np; exact np
    have sN : Same H (upd (upd H d (.dK [])) p (.lst [])) := (same_new nd).trans (same_new np)
    obtain ⟨nSd, _⟩ := hN.ne nd
    obtain ⟨nSp, _⟩ := hN.ne np0
    have hlk : (netF n.ha n.pa n.sa).lookup ("add_node" : Str) = none := net_none _ _ _ (by decide +kernel) (by decide +kernel) (by decide +kernel)
    refine ⟨_, rfl, a, _, rfl, sN.seq hs, RT.for_Itv (K := K) (a := a) (xs := encV f)
      (fun i σ H' => ∃ (pre : List Nat) (ts : List Form) (ns : List Nat) (N' : Net) (ks : List (Nat × Nat)) (v4 v5 v6 : Option V), σ = [some (.ref n.a), some (.ref a), some (.ref d), some (.ref p), v4, v5, v6] ∧ Fr (NetS n) H H' ∧
        H' d = some (.dK (kvsN ks)) ∧ H' p = some (.lst ((ns.reverse).map iv)) ∧ NetAt H' L n N' (List.range N'.hs.length) ∧ AddI N N' ks ts ns ∧ enc f = pre ++ flat ts ∧ pre.length + i = Vapcma.size f ∧ N'.hs.length ≤ N.hs.length + i ∧ ks.length ≤ i)
      ⟨enc f, [], [], N, [], none, none, none, rfl, Fr.of sN, by rw [upd_ne ndp]; exact upd_same, upd_same, hN.same sN, AddI.start hW, by simp, by rw [enc_length]; rfl, by simp, by simp⟩ (fun i σ H' ⟨_, _, _, _, _, _, _, _, _, fr, _⟩ => sq_at (fun o e => fr a o e hna) hs) ?_ ?_⟩
    · rintro i x σ H' hi hx ⟨pre, ts, ns, N', ks, v4, v5, v6, rfl, fr, hd, hp, hNA, hA, hf, hpl, hnl, hkl⟩
      obtain ⟨y, hy, rfl⟩ := get_map hx
      rw [hl] at hi hy
      obtain ⟨pre', y', rfl⟩ : ∃ pre' y', pre = pre' ++ [y'] := by
        have hne : pre ≠ [] := by
          intro e
          rw [e] at hpl
          simp at hpl
          omega
        exact ⟨_, _, (List.dropLast_concat_getLast hne).symm⟩
      have hpl' : pre'.length = Vapcma.size f - 1 - i := by
        simp only [List.length_append, List.length_cons, List.length_nil] at hpl
        omega
      obtain rfl : y = y' := by
        rw [hf, ← hpl', List.append_assoc, List.getElem?_append_right (Nat.le_refl _), Nat.sub_self] at hy
        exact (Option.some.inj hy).symm
      rw [List.append_assoc] at hf
      have hf2 : enc f = pre' ++ y :: flat ts := hf
      have hpl2 : pre'.length + (i + 1) = Vapcma.size f := by omega
      have hnsl : ns.length ≤ 1000 := by
        rw [← hA.reps.length]
        have h1 := flat_len ts
        have h2 := congrArg List.length hf2
        rw [enc_length, List.length_append, List.length_cons] at h2
        omega
      have hpsl : N'.ps.length = N'.hs.length := hA.wf.len.symm
      refine ⟨_, rfl, rfl, _, rfl, ?_⟩
      refine ite2 (fun c => ?_) (fun c => ?_)
      · have c : y = 0 := by have := V.int.inj (of_decide_eq_true c); omega
        subst c
        obtain ⟨t1, t2, r, rfl⟩ := suf_imp hf2
        match ns, hA with
        | r1 :: r2 :: ns', hA =>
          refine ⟨_, rfl, .inl ⟨rfl, _, SqL.of hp⟩, p, _, _, rfl, rfl, hp, last_revm _ _, ?_⟩
          rw [drop_revm]
          refine ⟨_, rfl, .inl ⟨rfl, _, SqL.of upd_same⟩, p, _, _, rfl, rfl, upd_same, last_revm _ _, ?_⟩
          rw [drop_revm, upd_upd]
          have hN2 := hNA.upd (o := .lst (ns'.reverse.map iv)) hp (.inl ⟨_, rfl⟩) nSp
          refine ⟨_, rfl, .inl ⟨rfl, _, SqL.of upd_same⟩, _, rfl, n.a, _, _, rfl, hN2.obj, hlk, _, rfl, _, rfl, (by show 2 ≤ sizeLine; decide), fun q nq => ?_⟩
          have npq : p ≠ q := ne_of_none upd_same nq
          have hN3 := hN2.same (same_new (o := .tup [iv r1, iv r2]) nq)
          refine ⟨n, N', _, 0, q, [r1, r2], rfl, hN3, upd_same, by omega, hpsl, by simp, fun H3 h3 f3 => ?_⟩
          have hp3 : H3 p = some (.lst (ns'.reverse.map iv)) := f3 p _ (by rw [upd_ne npq]; exact upd_same) nSp
          have hd3 : H3 d = some (.dK (kvsN ks)) := f3 d _ (by rw [upd_ne (ne_of_none (by rw [upd_ne ndp]; exact hd) nq), upd_ne ndp]; exact hd) nSd
          refine ⟨p, _, _, rfl, rfl, hp3, by simp at hnsl ⊢; exact fitslt_of (by omega), ?_⟩
          refine ⟨pre', .imp t1 t2 :: r, N'.hs.length :: ns', N'.add 0 [r1, r2], ks, _, _, _, rfl, fun b o z nb => ?_, ?_, ?_, ?_, hA.imp, ?_, hpl2, ?_, by omega⟩
          · have b1 : b ≠ p := ne_of_none z np0
            rw [upd_ne b1]
            have z1 := fr b o z nb
            refine f3 b o ?_ nb
            rw [upd_ne (ne_of_none (by rw [upd_ne b1]; exact z1) nq), upd_ne b1]
            exact z1
          · rw [upd_ne ndp]; exact hd3
          · rw [upd_same]; simp
          · have h4 := h3.upd (o := .lst (ns'.reverse.map iv ++ [iv N'.hs.length])) hp3 (.inl ⟨_, rfl⟩) nSp
            have e1 : (N'.add 0 [r1, r2]).hs.length = N'.hs.length + 1 := by simp [Net.add]
            rw [e1, List.range_succ]
            exact h4
          · rw [hf2]; simp [enc]
          · simp [Net.add]; omega
        | [], hA => exact absurd hA.reps.length (by simp)
        | [_], hA => exact absurd hA.reps.length (by simp)
      · refine ⟨_, rfl, rfl, _, rfl, ?_⟩
        refine ite2 (fun c2 => ?_) (fun c2 => ?_)
        · have c2 : y = 1 := by have := V.int.inj (of_decide_eq_true c2); omega
          subst c2
          obtain ⟨t1, r, rfl⟩ := suf_neg hf2
          match ns, hA with
          | r1 :: ns', hA =>
            refine ⟨_, rfl, .inl ⟨rfl, _, SqL.of hp⟩, _, rfl, n.a, _, _, rfl, hNA.obj, hlk, _, rfl, .inl ⟨rfl, _, SqL.of hp⟩, p, _, _, rfl, rfl, hp, last_revm _ _, ?_⟩
            rw [drop_revm]
            have hN2 := hNA.upd (o := .lst (ns'.reverse.map iv)) hp (.inl ⟨_, rfl⟩) nSp
            refine ⟨(by show 1 ≤ sizeLine; decide), fun q nq => ?_⟩
            have npq : p ≠ q := ne_of_none upd_same nq
            have hN3 := hN2.same (same_new (o := .tup [iv r1]) nq)
            refine ⟨n, N', _, 1, q, [r1], rfl, hN3, upd_same, by omega, hpsl, by simp, fun H3 h3 f3 => ?_⟩
            have hp3 : H3 p = some (.lst (ns'.reverse.map iv)) := f3 p _ (by rw [upd_ne npq]; exact upd_same) nSp
            have hd3 : H3 d = some (.dK (kvsN ks)) := f3 d _ (by rw [upd_ne (ne_of_none (by rw [upd_ne ndp]; exact hd) nq), upd_ne ndp]; exact hd) nSd
            refine ⟨p, _, _, rfl, rfl, hp3, by simp at hnsl ⊢; exact fitslt_of (by omega), ?_⟩
            refine ⟨pre', .neg t1 :: r, N'.hs.length :: ns', N'.add 1 [r1], ks, _, v5, v6, rfl, fun b o z nb => ?_, ?_, ?_, ?_, hA.neg, ?_, hpl2, ?_, by omega⟩
            · have b1 : b ≠ p := ne_of_none z np0
              rw [upd_ne b1]
              have z1 := fr b o z nb
              refine f3 b o ?_ nb
              rw [upd_ne (ne_of_none (by rw [upd_ne b1]; exact z1) nq), upd_ne b1]
              exact z1
            · rw [upd_ne ndp]; exact hd3
            · rw [upd_same]; simp
            · have h4 := h3.upd (o := .lst (ns'.reverse.map iv ++ [iv N'.hs.length])) hp3 (.inl ⟨_, rfl⟩) nSp
              have e1 : (N'.add 1 [r1]).hs.length = N'.hs.length + 1 := by simp [Net.add]
              rw [e1, List.range_succ]
              exact h4
            · rw [hf2]; simp [enc]
            · simp [Net.add]; omega
          | [], hA => exact absurd hA.reps.length (by simp)
        · have c1 : ¬ y = 0 := fun e => c (by simp [e])
          have c3 : ¬ y = 1 := fun e => c2 (by simp [e])
          obtain ⟨v, rfl⟩ : ∃ v, y = v + 2 := ⟨y - 2, by omega⟩
          refine ⟨_, rfl, _, rfl, d, _, rfl, DGet.k (k := keyN v) hd, _, rfl, ?_⟩
          by_cases hv : v ∈ ks.map Prod.fst
          · rw [kvsN_old hv]
            refine iteF' rfl ?_
            refine ⟨_, rfl, .inl ⟨rfl, _, SqL.of hp⟩, _, rfl, _, rfl, d, _, rfl, by have := DGet.k (k := keyN v) hd; rw [kvsN_old hv] at this; exact this, ?_⟩
            refine ⟨p, _, _, rfl, rfl, hp, by simp at hnsl ⊢; exact fitslt_of (by omega), ?_⟩
            refine ⟨pre', .var v :: ts, mOf ks v :: ns, N', ks, _, v5, v6, rfl, fun b o z nb => ?_, ?_, ?_, hNA.upd hp (.inl ⟨_, rfl⟩) nSp, hA.old hv, ?_, hpl2, by omega, by omega⟩
            · rw [upd_ne (ne_of_none z np0)]; exact fr b o z nb
            · rw [upd_ne ndp]; exact hd
            · rw [upd_same]; simp
            · rw [hf2]; simp [enc]
          · rw [kvsN_new hv]
            refine iteT' rfl ?_
            refine ⟨_, rfl, n.a, _, _, rfl, hNA.obj, hlk, (by decide), fun q nq => ?_⟩
            have npq : p ≠ q := ne_of_none hp nq
            have ndq : d ≠ q := ne_of_none hd nq
            have hN3 := hNA.same (same_new (o := .tup []) nq)
            refine ⟨n, N', _, 2, q, [], rfl, hN3, upd_same, by omega, hpsl, by simp, fun H3 h3 f3 => ?_⟩
            have hp3 : H3 p = some (.lst (ns.reverse.map iv)) := f3 p _ (by rw [upd_ne npq]; exact hp) nSp
            have hd3 : H3 d = some (.dK (kvsN ks)) := f3 d _ (by rw [upd_ne ndq]; exact hd) nSd
            have hkk : (kvsN ks).length < sizeLine := by
              rw [kvsN, List.length_map]; exact fitslt_of (by omega)
            refine ⟨_, rfl, _, rfl, d, _, rfl, DPut.k (k := keyN v) hd3 hkk, ?_⟩
            rw [putK_new _ (kvsN_new hv)]
            have ekv : kvsN ks ++ [(keyN v, iv N'.hs.length)] = kvsN (ks ++ [(v, N'.hs.length)]) := by simp [kvsN]
            rw [ekv]
            have hp4 : upd H3 d (.dK (kvsN (ks ++ [(v, N'.hs.length)]))) p = some (.lst (ns.reverse.map iv)) := by rw [upd_ne (Ne.symm ndp)]; exact hp3
            have hin : v ∈ (ks ++ [(v, N'.hs.length)]).map Prod.fst := by simp
            refine ⟨_, rfl, .inl ⟨rfl, _, SqL.of hp4⟩, _, rfl, _, rfl, d, _, rfl, by have := DGet.k (H := upd H3 d (.dK (kvsN (ks ++ [(v, N'.hs.length)])))) (k := keyN v) upd_same; rw [kvsN_old hin, mOf_new hv] at this; exact this, ?_⟩
            refine ⟨p, _, _, rfl, rfl, hp4, by simp at hnsl ⊢; exact fitslt_of (by omega), ?_⟩
            refine ⟨pre', .var v :: ts, N'.hs.length :: ns, N'.add 2 [], ks ++ [(v, N'.hs.length)], _, v5, v6, rfl, fun b o z nb => ?_, ?_, ?_, ?_, hA.new hv, ?_, hpl2, ?_, by simp; omega⟩
            · have b1 : b ≠ p := ne_of_none z np0
              have b2 : b ≠ d := ne_of_none z nd
              rw [upd_ne b1, upd_ne b2]
              have z1 := fr b o z nb
              refine f3 b o ?_ nb
              rw [upd_ne (ne_of_none z1 nq)]
              exact z1
            · rw [upd_ne ndp]; exact upd_same
            · rw [upd_same]; simp
            · have h4 := (h3.upd (o := .dK (kvsN (ks ++ [(v, N'.hs.length)]))) hd3 (.inr ⟨_, rfl⟩) nSd).upd (o := .lst (ns.reverse.map iv ++ [iv N'.hs.length])) hp4 (.inl ⟨_, rfl⟩) nSp
              have e1 : (N'.add 2 []).hs.length = N'.hs.length + 1 := by simp [Net.add]
              rw [e1, List.range_succ]
              exact h4
            · rw [hf2]; simp [enc]
            · simp [Net.add]; omega
    · rintro σ H' ⟨pre, ts, ns, N', ks, v4, v5, v6, rfl, fr, hd, hp, hNA, hA, hf, hpl, hnl, hkl⟩
      have : pre = [] := List.length_eq_zero_iff.mp (by rw [hl] at hpl; omega)
      subst this
      have := suf_all (by simpa using hf)
      subst this
      match ns, hA with
      | [r], hA =>
        refine ⟨_, rfl, p, _, 0, _, rfl, rfl, SqL.of hp, atI_nat (j := 0) rfl, ?_⟩
        exact k H' N' (mOf ks) r hNA hA.put (by rw [hl] at hnl; exact hnl) fr
      | [], hA => exact absurd hA.reps.length (by simp)
      | _ :: _ :: _, hA => exact absurd hA.reps.length (by simp)
end
end Dr

namespace Dr
open PySem PySem.Spec PyProof.Rows L2
open Vapcma (Form)
theorem PartsIs.last {H : Hp} {p : List Nat} : ∀ {ps : List (List Nat)} {vs : List V}, PartsIs H (ps ++ [p]) vs → ∃ vs' q, vs = vs' ++ [.ref q] ∧ PartsIs H ps vs' ∧ H q = some (.tup (p.map iv))
  | [], _, .cons (q := q) h .nil => ⟨[], q, rfl, .nil, h⟩
  | a :: ps, _, .cons (q := q) h r => by
    obtain ⟨vs', q', e, r', h'⟩ := PartsIs.last r
    exact ⟨.ref q :: vs', q', by rw [e]; rfl, .cons h r', h'⟩
theorem ixN_nat {n j : Nat} (h : j < n) : ixN n (j : Int) = some j := by
  unfold ixN
  rw [if_pos (by omega), if_pos (by omega)]
  simp
theorem roots_le : ∀ (l : List Nat) (i : Nat), roots i l ≤ l.length
  | [], i => Nat.le_refl _
  | x :: l, i => by
    have := roots_le l (i + 1)
    simp only [roots, List.length_cons]
    split <;> omega
theorem last_app (vs : List V) (y : V) : (vs ++ [y])[(vs ++ [y]).length - 1]? = some y := by simp
def prs (wt : List (Nat × Nat)) : List (List Nat) := wt.map fun e => [e.1, e.2]
theorem Net.Wf.head {N : Net} (W : N.Wf) {r : Nat} (h : r < N.hs.length) : (N.isU r ∧ N.hs[r]? = some 2 ∧ N.ps[r]? = some []) ∨ (∃ p, N.isN r p ∧ N.hs[r]? = some 1 ∧ N.ps[r]? = some [p]) ∨ ∃ p q, N.isI r p q ∧ N.hs[r]? = some 0 ∧ N.ps[r]? = some [p, q] := by
  rcases W.kinds r h with u | ⟨p, _, u⟩ | ⟨p, q, _, _, u⟩
  · exact .inl ⟨u, u.1, u.2⟩
  · exact .inr (.inl ⟨p, u, u.1, u.2⟩)
  · exact .inr (.inr ⟨p, q, u, u.1, u.2⟩)
theorem iv_inj {a b : Nat} (h : iv a = iv b) : a = b := by have := V.int.inj h; omega
section
variable {P : Program} {w : World} {K : PySem.W.Frag} {mg : Str → Option Value} {base : Heap} {L : Lay}
theorem NetAt.setSt {H : Hp} {n : NAd} {N : Net} {st : List Nat} (h : NetAt H L n N st) (j b : Nat) : NetAt (L2.upd H n.sa (.lst ((st.map iv).set j (iv b)))) L n N (st.set j b) := by
  obtain ⟨vs, hp1, hp2⟩ := h.ps
  have na3 : n.a ≠ n.sa := ne_of h.obj h.st (by intro z; cases z)
  refine ⟨by rw [upd_ne na3]; exact h.obj, by rw [upd_ne h.d2]; exact h.hs, ⟨vs, by rw [upd_ne h.d3]; exact hp1, hp2.same fun b xs z => ?_⟩, ?_, h.d1, h.d2, h.d3⟩
  · rw [upd_ne (ne_of z h.st (by intro z; cases z))]; exact z
  · rw [upd_same, List.map_set]
def sp_make_same (L : Lay) : Sp := fun vs H Q _ => ∃ (n : NAd) (N : Net) (one other : Nat), vs = [.ref n.a, iv one, iv other] ∧ NetAt H L n N (List.range N.hs.length) ∧ N.Wf ∧ one < N.hs.length ∧ other < N.hs.length ∧ N.hs.length ≤ 5000 ∧
  (∀ H', (∀ val, Cons N val → val one ≠ val other) → Fr (NetS n) H H' → Q (.bl false) H') ∧ ∀ H' st', Mid N one other st' [] → NetAt H' L n N st' → Fr (NetS n) H H' → Q (.bl true) H'
abbrev s_Net_make_same : Stmt := inClass (top 16) 4
theorem sc_Net_make_same : FnScope ["self", "one", "other", "waiting", "pair", "first", "second", "part"] ["self", "one", "other"] (defScope s_Net_make_same) := ⟨rfl, rfl, rfl, by decide +kernel, rfl, by decide +kernel, by decide +kernel⟩
theorem ok_Net_make_same {f : Addr} {fd : FuncData} (F : Fun K "make_same" "Net.make_same" s_Net_make_same f fd) (T : Txt K mg L) (h_leader : HasMeth P w K mg base CX0 1 L.Net "leader" ["self", "node"] (sp_leader L))
    (h_is_unknown : HasDef P w K mg base CX0 1 "is_unknown" ["sign"] sp_is_unknown) : FnOk P w K mg base CX0 2 f fd ["self", "one", "other"] (sp_make_same L) := by
  refine F.ok sc_Net_make_same (fun vs H Q E h => ?_) (fun cdv A outer s H vs Q E hr h => ?_)
  · obtain ⟨n, N, one, other, rfl, _⟩ := h
    rfl
  · have n_zip := T.n_zip
    obtain ⟨f_leader, fd_leader, M_Net_leader, b_Net_leader, G_Net_leader⟩ := h_leader
    obtain ⟨f_is_unknown, fd_is_unknown, m_is_unknown, k_is_unknown, b_is_unknown, G_is_unknown⟩ := h_is_unknown
    refine ⟨_, pss_cons (ps_set (i := 3) sc_Net_make_same.nd rfl (Or.inl rfl) (pe_lst (pa_cons (pe_tup (pa_cons (pv 1) (pa_cons (pv 2) pa_nil))) pa_nil)))
      (pss_cons (ps_while PassesOwn.never (pt_truth (pv 3) (by intro _; rfl))
        (pss_cons (ps_set (i := 4) sc_Net_make_same.nd rfl (Or.inl rfl) (pe_bm0 PySem.F.plainAttrs_list PySem.F.slot_list_pop PySem.F.type_list_pop mt_pop (pv 3)))
          (pss_cons (ps_set (i := 5) sc_Net_make_same.nd rfl (Or.inl rfl) (pe_meth (pv 0) T.cNet M_Net_leader G_Net_leader (hr.mono (by decide)) b_Net_leader .nil pass0 (pa_cons (pe_ix ix_tup (pv 4) pe_int (fun _ _ => rfl)) pa_nil)))
          (pss_cons (ps_set (i := 6) sc_Net_make_same.nd rfl (Or.inl rfl) (pe_meth (pv 0) T.cNet M_Net_leader G_Net_leader (hr.mono (by decide)) b_Net_leader .nil pass0 (pa_cons (pe_ix ix_tup (pv 4) pe_int (fun _ _ => rfl)) pa_nil)))
          (pss_cons (ps_if (pt_cmpR op_eq (pv 5) (pv 6) (nomark _))
            (pss_one (ps_continue))
            (pss_nil))
          (pss_cons (ps_if (pt_val (pe_call G_is_unknown (hr.mono (by decide)) rfl m_is_unknown k_is_unknown b_is_unknown .nil pass0 (pa_cons (pe_ix ix_list (pe_fld (pv 0) rfl) (pv 6) (fun _ _ => rfl)) pa_nil)))
            (pss_cons (ps_asg (pv 5) (pg_sub (pe_fld (pv 0) rfl) (pv 6) set_list))
              (pss_one (ps_continue)))
            (pss_nil))
          (pss_cons (ps_asg (pv 6) (pg_sub (pe_fld (pv 0) rfl) (pv 5) set_list))
          (pss_cons (ps_if (pt_val (pe_call G_is_unknown (hr.mono (by decide)) rfl m_is_unknown k_is_unknown b_is_unknown .nil pass0 (pa_cons (pe_ix ix_list (pe_fld (pv 0) rfl) (pv 5) (fun _ _ => rfl)) pa_nil)))
            (pss_one (ps_continue))
            (pss_nil))
          (pss_cons (ps_if (pt_cmpR op_ne (pe_ix ix_list (pe_fld (pv 0) rfl) (pv 5) (fun _ _ => rfl)) (pe_ix ix_list (pe_fld (pv 0) rfl) (pv 6) (fun _ _ => rfl)) (nomark _))
            (pss_one (ps_ret pe_bl))
            (pss_nil))
          (pss_one (ps_for PassesOwn.never rfl (pi_zipN (by rfl) n_zip (pa_cons (pe_ix ix_list (pe_fld (pv 0) rfl) (pv 5) (fun _ _ => rfl)) (pa_cons (pe_ix ix_list (pe_fld (pv 0) rfl) (pv 6) (fun _ _ => rfl)) pa_nil))) (pg_name (i := 7) sc_Net_make_same.nd rfl (Or.inl rfl))
            (pss_one (ps_expr (pe_bm PySem.F.plainAttrs_list PySem.F.slot_list_append PySem.F.type_list_append mt_append (pv 3) (pa_cons (pv 7) pa_nil)))))))))))))))
      (pss_one (ps_ret pe_bl))), ?_⟩
    obtain ⟨n, N, one, other, rfl, hN, hW, h1, h2, hz, kF, kT⟩ := h
    have lkl : (netF n.ha n.pa n.sa).lookup ("leader" : Str) = none := net_none _ _ _ (by decide +kernel) (by decide +kernel) (by decide +kernel)
    refine ⟨_, rfl, _, rfl, (by show 2 ≤ sizeLine; decide), fun q0 nq0 => ⟨(by show 1 ≤ sizeLine; decide), fun p np => ?_⟩⟩
    have nqp : q0 ≠ p := ne_of_none upd_same np
    have np0 : H p = none := by rw [upd_ne (Ne.symm nqp)] at np; exact np
    have sN : Same H (upd (upd H q0 (.tup [iv one, iv other])) p (.lst [.ref q0])) := (same_new nq0).trans (same_new np)
    obtain ⟨nSp, _⟩ := hN.ne np0
    refine ⟨fun m σ H' => ∃ (st : List Nat) (wt : List (Nat × Nat)) (vs : List V) (v4 v5 v6 v7 : Option V), σ = [some (.ref n.a), some (iv one), some (iv other), some (.ref p), v4, v5, v6, v7] ∧ Fr (NetS n) H H' ∧
        H' p = some (.lst vs) ∧ PartsIs H' (prs wt) vs ∧ NetAt H' L n N st ∧ Mid N one other st wt ∧ m = 3 * roots 0 st + wt.length ∧ m ≤ 20000,
      ⟨_, List.range N.hs.length, [(one, other)], [.ref q0], none, none, none, none, rfl, Fr.of sN, upd_same, .cons (by rw [upd_ne nqp]; exact upd_same) .nil, hN.same sN, Mid.start h1 h2, rfl, ?_⟩, ?_⟩
    · have := roots_le (List.range N.hs.length) 0
      rw [List.length_range] at this
      simp
      omega
    · rintro m σ H' ⟨st, wt, vs, v4, v5, v6, v7, rfl, fr, hp, hpi, hNA, hM, hm, hmz⟩
      have hvl : vs.length = wt.length := by rw [hpi.length]; simp [prs]
      refine ⟨_, rfl, _, .inl ⟨_, SqL.of hp, rfl⟩, ?_⟩
      refine ite2 (fun c => ?_) (fun c => ?_)
      · -- a pair waits
        have hne : wt ≠ [] := by
          intro e
          subst e
          have : vs = [] := List.length_eq_zero_iff.mp (by rw [hvl]; rfl)
          subst this
          cases c
        obtain ⟨wt', ⟨x, y⟩, rfl⟩ : ∃ wt' e, wt = wt' ++ [e] := ⟨_, _, (List.dropLast_concat_getLast hne).symm⟩
        have hpi' : PartsIs H' (prs wt' ++ [[x, y]]) vs := by
          have : prs (wt' ++ [(x, y)]) = prs wt' ++ [[x, y]] := by simp [prs]
          rw [← this]; exact hpi
        obtain ⟨vs', q, rfl, hpi2, hq⟩ := hpi'.last
        have hq : H' q = some (.tup [iv x, iv y]) := hq
        refine ⟨fun σ' H2 => ∃ m', m' < m ∧ (∃ (st : List Nat) (wt : List (Nat × Nat)) (vs : List V) (v4 v5 v6 v7 : Option V), σ' = [some (.ref n.a), some (iv one), some (iv other), some (.ref p), v4, v5, v6, v7] ∧ Fr (NetS n) H H2 ∧
          H2 p = some (.lst vs) ∧ PartsIs H2 (prs wt) vs ∧ NetAt H2 L n N st ∧ Mid N one other st wt ∧ m' = 3 * roots 0 st + wt.length ∧ m' ≤ 20000), fun _ _ z => z, ?_⟩
        refine ⟨_, rfl, .inl ⟨rfl, _, SqL.of hp⟩, p, _, _, rfl, rfl, hp, last_app _ _, ?_⟩
        rw [List.dropLast_concat]
        have npq : p ≠ q := ne_of hp hq (by intro z; cases z)
        have tk : ∀ b xs, H' b = some (.tup xs) → upd H' p (.lst vs') b = some (.tup xs) := fun b xs z => by
          rw [upd_ne (ne_of z hp (by intro z; cases z))]; exact z
        have fr1 : Fr (NetS n) H (upd H' p (.lst vs')) := fr.upd (.inr np0)
        have hN1 := hNA.upd (o := .lst vs') hp (.inl ⟨_, rfl⟩) nSp
        have hq1 := tk _ _ hq
        have hpi1 := hpi2.same tk
        have hp1 : upd H' p (.lst vs') p = some (.lst vs') := upd_same
        generalize hH1 : upd H' p (.lst vs') = H1 at *
        have hlt := hM.lt (x, y) (by simp)
        obtain ⟨a, r1, l1⟩ := hM.leads x hlt.1
        obtain ⟨b, r2, l2⟩ := hM.leads y hlt.2
        have hr1 := hM.root_lt l1
        have hr2 := hM.root_lt l2
        have hst : st.length = N.hs.length := hM.len
        refine ⟨_, rfl, n.a, _, _, rfl, hN1.obj, lkl, _, rfl, q, _, 0, _, rfl, rfl, SqT.of hq1, atI_nat (j := 0) rfl, n, N, st, a, x, r1, rfl, hN1, l1, ?_⟩
        refine ⟨_, rfl, n.a, _, _, rfl, hN1.obj, lkl, _, rfl, q, _, 1, _, rfl, rfl, SqT.of hq1, atI_nat (j := 1) rfl, n, N, st, b, y, r2, rfl, hN1, l2, ?_⟩
        refine ⟨_, rfl, _, rfl, rfl, _, rfl, ?_⟩
        refine ite2 (fun c => ?_) (fun c => ?_)
        · -- the same already
          have c : r1 = r2 := iv_inj (of_decide_eq_true c)
          subst c
          refine ⟨3 * roots 0 st + wt'.length, by simp at hm; omega, st, wt', vs', _, _, _, v7, rfl, fr1, hp1, hpi1, hN1, hM.skip l1 l2, rfl, by simp at hm; omega⟩
        · have c : r1 ≠ r2 := fun e => c (decide_eq_true (by rw [e]))
          have rset : ∀ s t, (s = r1 ∧ t = r2) ∨ (s = r2 ∧ t = r1) → roots 0 (st.set s t) + 1 = roots 0 st := by
            rintro s t (⟨rfl, rfl⟩ | ⟨rfl, rfl⟩)
            · exact roots_set st 0 _ _ (by rw [Nat.zero_add]; exact l1.is) (by omega)
            · exact roots_set st 0 _ _ (by rw [Nat.zero_add]; exact l2.is) (by omega)
          have hd2 := hW.head hr2
          have hd1 := hW.head hr1
          have mlen : (wt' ++ [(x, y)]).length = wt'.length + 1 := by simp
          rw [mlen] at hm
          have nst : ¬ H1 n.sa = none := by rw [hN1.st]; exact fun z => by cases z
          have nps : p ≠ n.sa := fun e => nSp (.inr (.inr e))
          -- what becomes of the rest when the list of what stands changes
          have after : ∀ (j t : Nat), Fr (NetS n) H (upd H1 n.sa (.lst ((st.map iv).set j (iv t)))) ∧ upd H1 n.sa (.lst ((st.map iv).set j (iv t))) p = some (.lst vs') ∧ PartsIs (upd H1 n.sa (.lst ((st.map iv).set j (iv t)))) (prs wt') vs' ∧ NetAt (upd H1 n.sa (.lst ((st.map iv).set j (iv t)))) L n N (st.set j t) := fun j t =>
            ⟨fr1.upd (.inl (.inr (.inr rfl))), by rw [upd_ne nps]; exact hp1, hpi1.same fun b xs z => by rw [upd_ne (ne_of z hN1.st (by intro z; cases z))]; exact z, hN1.setSt j t⟩
          obtain ⟨pvs, hps1, hps2⟩ := hN1.ps
          have rdh : ∀ {r h : Nat}, N.hs[r]? = some h → atI (N.hs.map iv) (r : Int) = some (iv h) := fun h => iv_at h
          refine ⟨_, rfl, n.a, _, _, _, _, rfl, hN1.obj, T.cNet, T.nNet_heads, net_heads _ _ _, ?_⟩
          rcases hd2 with ⟨u2, g2, _⟩ | hd2
          · refine ⟨_, rfl, n.ha, _, _, _, rfl, rfl, SqL.of hN1.hs, rdh g2, _, rfl, _, rfl, ?_⟩
            refine iteT' (by decide) ?_
            refine ⟨_, rfl, _, rfl, n.a, _, _, _, _, rfl, hN1.obj, T.cNet, T.nNet_stands, net_stands _ _ _, _, rfl, n.sa, _, _, r2, rfl, rfl, hN1.st, ixN_nat (by rw [List.length_map, hst]; exact hr2), ?_⟩
            obtain ⟨f1, f2, f3, f4⟩ := after r2 r1
            have := rset r2 r1 (.inr ⟨rfl, rfl⟩)
            exact ⟨3 * roots 0 (st.set r2 r1) + wt'.length, by omega, _, wt', vs', _, _, _, v7, rfl, f1, f2, f3, f4, hM.link_u2 l1 l2 c u2, rfl, by omega⟩
          · have g2 : ∃ h2, N.hs[r2]? = some h2 ∧ h2 < 2 := by
              rcases hd2 with ⟨_, _, g, _⟩ | ⟨_, _, _, g, _⟩
              · exact ⟨_, g, by decide⟩
              · exact ⟨_, g, by decide⟩
            obtain ⟨hh2, g2, g2l⟩ := g2
            refine ⟨_, rfl, n.ha, _, _, _, rfl, rfl, SqL.of hN1.hs, rdh g2, _, rfl, _, rfl, ?_⟩
            refine iteF' (by simp; omega) ?_
            refine ⟨_, rfl, _, rfl, n.a, _, _, _, _, rfl, hN1.obj, T.cNet, T.nNet_stands, net_stands _ _ _, _, rfl, n.sa, _, _, r1, rfl, rfl, hN1.st, ixN_nat (by rw [List.length_map, hst]; exact hr1), ?_⟩
            obtain ⟨f1, f2, f3, f4⟩ := after r1 r2
            have hro := rset r1 r2 (.inl ⟨rfl, rfl⟩)
            generalize upd H1 n.sa (.lst ((st.map iv).set r1 (iv r2))) = H2 at *
            refine ⟨_, rfl, n.a, _, _, _, _, rfl, f4.obj, T.cNet, T.nNet_heads, net_heads _ _ _, ?_⟩
            rcases hd1 with ⟨u1, g1, _⟩ | hd1
            · refine ⟨_, rfl, n.ha, _, _, _, rfl, rfl, SqL.of f4.hs, rdh g1, _, rfl, _, rfl, ?_⟩
              refine iteT' (by decide) ?_
              exact ⟨3 * roots 0 (st.set r1 r2) + wt'.length, by omega, _, wt', vs', _, _, _, v7, rfl, f1, f2, f3, f4, hM.link_u1 l1 l2 c u1, rfl, by omega⟩
            · have g1 : ∃ h1, N.hs[r1]? = some h1 ∧ h1 < 2 := by
                rcases hd1 with ⟨_, _, g, _⟩ | ⟨_, _, _, g, _⟩
                · exact ⟨_, g, by decide⟩
                · exact ⟨_, g, by decide⟩
              obtain ⟨hh1, g1, g1l⟩ := g1
              refine ⟨_, rfl, n.ha, _, _, _, rfl, rfl, SqL.of f4.hs, rdh g1, _, rfl, _, rfl, ?_⟩
              refine iteF' (by simp; omega) ?_
              have alt : (hh1 ≠ hh2 ∧ ∀ val, Cons N val → val one ≠ val other) ∨ (hh1 = hh2 ∧ ∃ p1 p2, N.ps[r1]? = some p1 ∧ N.ps[r2]? = some p2 ∧ p1.length = p2.length ∧ p1.length ≤ 2 ∧ Mid N one other (st.set r1 r2) (wt' ++ p1.zip p2)) := by
                rcases hd1 with ⟨p1, i1, e1, e2⟩ | ⟨p1, q1, i1, e1, e2⟩
                · obtain rfl : hh1 = 1 := Option.some.inj (g1.symm.trans e1)
                  rcases hd2 with ⟨p2, i2, e3, e4⟩ | ⟨p2, q2, i2, e3, e4⟩
                  · obtain rfl : hh2 = 1 := Option.some.inj (g2.symm.trans e3)
                    exact .inr ⟨rfl, [p1], [p2], e2, e4, rfl, by simp, hM.link_n hW l1 l2 c i1 i2⟩
                  · obtain rfl : hh2 = 0 := Option.some.inj (g2.symm.trans e3)
                    exact .inl ⟨by decide, hM.clash_ni l1 l2 i1 i2⟩
                · obtain rfl : hh1 = 0 := Option.some.inj (g1.symm.trans e1)
                  rcases hd2 with ⟨p2, i2, e3, e4⟩ | ⟨p2, q2, i2, e3, e4⟩
                  · obtain rfl : hh2 = 1 := Option.some.inj (g2.symm.trans e3)
                    exact .inl ⟨by decide, hM.clash_in l1 l2 i1 i2⟩
                  · obtain rfl : hh2 = 0 := Option.some.inj (g2.symm.trans e3)
                    exact .inr ⟨rfl, [p1, q1], [p2, q2], e2, e4, rfl, by simp, hM.link_i hW l1 l2 c i1 i2⟩
              refine ⟨_, rfl, n.a, _, _, _, _, rfl, f4.obj, T.cNet, T.nNet_heads, net_heads _ _ _, _, rfl, n.ha, _, _, _, rfl, rfl, SqL.of f4.hs, rdh g1, _, rfl, n.a, _, _, _, _, rfl, f4.obj, T.cNet, T.nNet_heads, net_heads _ _ _, _, rfl, n.ha, _, _, _, rfl, rfl, SqL.of f4.hs, rdh g2, rfl, _, rfl, ?_⟩
              rcases alt with ⟨ne, hcl⟩ | ⟨rfl, p1, p2, e1, e2, el, el2, hM2⟩
              · refine iteT' (by simp; omega) ?_
                exact kF H2 hcl f1
              · refine iteF' (by simp) ?_
                obtain ⟨pv2, ps1, ps2⟩ := f4.ps
                obtain ⟨qa, ga, ha⟩ := ps2.get e1
                obtain ⟨qb, gb, hb⟩ := ps2.get e2
                refine ⟨_, rfl, n.a, _, _, _, _, rfl, f4.obj, T.cNet, T.nNet_parts, net_parts _ _ _, _, rfl, n.pa, _, _, _, rfl, rfl, SqL.of ps1, atI_nat ga, _, rfl, n.a, _, _, _, _, rfl, f4.obj, T.cNet, T.nNet_parts, net_parts _ _ _, _, rfl, n.pa, _, _, _, rfl, rfl, SqL.of ps1, atI_nat gb, qa, qb, _, _, rfl, SqT.of ha, SqT.of hb, ?_⟩
                refine for_zipN (K := K) (xs := p1.map iv) (ys := p2.map iv) (by simp [el]) (fun i σ H3 => ∃ (vs3 : List V) (v7 : Option V), σ = [some (.ref n.a), some (iv one), some (iv other), some (.ref p), some (.ref q), some (iv r1), some (iv r2), v7] ∧ Fr (NetS n) H H3 ∧ H3 p = some (.lst vs3) ∧
                    PartsIs H3 (prs (wt' ++ (p1.zip p2).take i)) vs3 ∧ NetAt H3 L n N (st.set r1 r2) ∧ H3 qa = some (.tup (p1.map iv)) ∧ H3 qb = some (.tup (p2.map iv))) ⟨vs', v7, rfl, f1, f2, by simpa using f3, f4, ha, hb⟩ (fun i σ H3 ⟨_, _, _, _, _, _, _, z1, z2⟩ => ⟨SqT.of z1, SqT.of z2⟩) ?_ ?_
                · rintro i a1 a2 Tq σ H3 ha1 ha2 ⟨vs3, v7', rfl, y1, y2, y3, y4, y5, y6⟩ nT
                  obtain ⟨b1, hb1, rfl⟩ := get_map ha1
                  obtain ⟨b2, hb2, rfl⟩ := get_map ha2
                  have npT : p ≠ Tq := ne_of_none y2 nT
                  have sT := same_new (o := .tup [iv b1, iv b2]) nT
                  have hil : i < (p1.zip p2).length := by
                    rw [List.length_zip]
                    have := get_lt hb1
                    have := get_lt hb2
                    omega
                  have hzi : (p1.zip p2)[i]? = some (b1, b2) := by rw [List.getElem?_zip_eq_some]; exact ⟨hb1, hb2⟩
                  have hv3 : vs3.length ≤ wt'.length + 2 := by
                    rw [y3.length]
                    simp only [prs, List.length_map, List.length_append, List.length_take, List.length_zip]
                    omega
                  refine ⟨_, rfl, .inl ⟨rfl, _, SqL.of (sT _ _ y2)⟩, _, rfl, p, _, _, rfl, rfl, sT _ _ y2, fitslt_of (by omega), ?_⟩
                  have tk3 : ∀ b xs, H3 b = some (.tup xs) → upd (upd H3 Tq (.tup [iv b1, iv b2])) p (.lst (vs3 ++ [.ref Tq])) b = some (.tup xs) := fun b xs z => by
                    rw [upd_ne (ne_of z y2 (by intro z; cases z)), upd_ne (ne_of_none z nT)]; exact z
                  refine ⟨vs3 ++ [.ref Tq], _, rfl, fun b o z nb => ?_, upd_same, ?_, (y4.same sT).upd (sT _ _ y2) (.inl ⟨_, rfl⟩) nSp, tk3 _ _ y5, tk3 _ _ y6⟩
                  · have z1 := y1 b o z nb
                    rw [upd_ne (ne_of_none z np0), upd_ne (ne_of_none z1 nT)]; exact z1
                  · rw [take_succ' hzi, ← List.append_assoc]
                    have e9 : prs (wt' ++ (p1.zip p2).take i ++ [(b1, b2)]) = prs (wt' ++ (p1.zip p2).take i) ++ [[b1, b2]] := by simp [prs]
                    rw [e9]
                    refine (y3.same tk3).snoc ?_
                    rw [upd_ne (Ne.symm npT)]
                    exact upd_same
                · rintro σ H3 ⟨vs3, v7', rfl, y1, y2, y3, y4, y5, y6⟩
                  rw [List.take_of_length_le (by rw [List.length_zip, List.length_map]; omega)] at y3
                  have hzl : (p1.zip p2).length ≤ 2 := by rw [List.length_zip]; omega
                  refine ⟨3 * roots 0 (st.set r1 r2) + (wt' ++ p1.zip p2).length, ?_, _, _, vs3, _, _, _, v7', rfl, y1, y2, y3, y4, hM2, rfl, ?_⟩
                  · rw [List.length_append]; omega
                  · rw [List.length_append]; omega
      · have e : vs = [] := by
          cases vs with
          | nil => rfl
          | cons v vs => exact absurd rfl c
        subst e
        have : wt = [] := List.length_eq_zero_iff.mp hvl.symm
        subst this
        exact kT H' st hM hNA fr
end
end Dr

namespace Dr
open PySem PySem.Spec PyProof.Rows L2
open Vapcma (Form)
/-! ### reading a formula off the net -/
def keyU (r : Nat) : Key := Sum.inl (r : Int)
theorem keyU_inj {a b : Nat} (h : keyU a = keyU b) : a = b := by
  have := Sum.inl.inj h
  omega
def kvsU (ks : List Nat) : List (Key × V) := ks.map fun k => (keyU k, iv (idx ks k + 2))
theorem valV_map {α : Type} [DecidableEq α] {key : α → Key} (inj : ∀ a b, key a = key b → a = b) (g : α → V) : ∀ (l : List α) (r : α), valV (l.map fun k => (key k, g k)) (key r) = if r ∈ l then some (g r) else none
  | [], r => by simp [valV_nil]
  | a :: l, r => by
    rw [List.map_cons]
    by_cases e : a = r
    · subst e
      rw [valV_pos rfl, if_pos (by simp)]
    · rw [valV_neg (fun z => e (inj a r z)), valV_map inj g l r]
      by_cases h : r ∈ l
      · rw [if_pos h, if_pos (by simp [h])]
      · rw [if_neg h, if_neg (by simp [h]; exact fun z => e z.symm)]
theorem kvsU_val (ks : List Nat) (r : Nat) : valV (kvsU ks) (keyU r) = if r ∈ ks then some (iv (idx ks r + 2)) else none := valV_map (key := keyU) (fun _ _ => keyU_inj) (fun k => iv (idx ks k + 2)) ks r
theorem kvsU_snoc {ks : List Nat} {r : Nat} (h : r ∉ ks) : kvsU ks ++ [(keyU r, iv (ks.length + 2))] = kvsU (ks ++ [r]) := by
  unfold kvsU
  rw [List.map_append]
  congr 1
  · refine List.map_congr_left fun k hk => ?_
    rw [idx_pre _ hk]
  · simp [idx_new h]
theorem keysOf_len : ∀ (l ks : List Nat), (keysOf ks l).length ≤ ks.length + l.length
  | [], ks => by simp
  | a :: l, ks => by
    rw [keysOf_cons]
    have h1 := keysOf_len l (addKey ks a)
    have h2 : (addKey ks a).length ≤ ks.length + 1 := by
      unfold addKey
      split
      · omega
      · simp
    simp only [List.length_cons]
    omega
theorem labs_len (o : List Nat) : (keysOf [] (labs o)).length ≤ o.length := by
  have h1 := keysOf_len (labs o) []
  have h2 : (labs o).length ≤ o.length := List.length_filterMap_le _ _
  simp only [List.length_nil] at h1
  omega
theorem labs_snoc_u (o : List Nat) (r : Nat) : keysOf [] (labs (o ++ [r + 2])) = addKey (keysOf [] (labs o)) r := by
  have e : labs (o ++ [r + 2]) = labs o ++ [r] := by rw [labs_append]; simp [labs]
  rw [e, keysOf_append]
  rfl
theorem labs_snoc_o (o : List Nat) {s : Nat} (h : s < 2) : keysOf [] (labs (o ++ [s])) = keysOf [] (labs o) := by
  have e : labs (o ++ [s]) = labs o := by rw [labs_append]; simp [labs, h]
  rw [e]
section
variable {P : Program} {w : World} {K : PySem.W.Frag} {mg : Str → Option Value} {base : Heap} {L : Lay}
def sp_formula_of (L : Lay) : Sp := fun vs H Q _ => ∃ (n : NAd) (N : Net) (x y : Nat) (st : List Nat) (node most : Nat), vs = [.ref n.a, iv node, iv most] ∧ NetAt H L n N st ∧ Mid N x y st [] ∧ N.Wf ∧ node < N.hs.length ∧ 0 < most ∧ most ≤ 1000 ∧
  (∀ H', Same H H' → (∀ val, Cons N val → Resp st val → most < Vapcma.size (val node)) → Q .non H') ∧
  ∀ H' p t, Same H H' → H p = none → H' p = some (.lst (encV (Vapcma.normal t))) → Reads N st node t → Vapcma.size t ≤ most → Q (.ref p) H'
abbrev s_Net_formula_of : Stmt := inClass (top 16) 5
theorem sc_Net_formula_of : FnScope ["self", "node", "most", "formula", "unknowns", "waiting", "top"] ["self", "node", "most"] (defScope s_Net_formula_of) := ⟨rfl, rfl, rfl, by decide +kernel, rfl, by decide +kernel, by decide +kernel⟩
theorem ok_Net_formula_of {f : Addr} {fd : FuncData} (F : Fun K "formula_of" "Net.formula_of" s_Net_formula_of f fd) (T : Txt K mg L) (h_leader : HasMeth P w K mg base CX0 1 L.Net "leader" ["self", "node"] (sp_leader L))
    (h_is_unknown : HasDef P w K mg base CX0 1 "is_unknown" ["sign"] sp_is_unknown) (h_unknown_sign : HasDef P w K mg base CX0 1 "unknown_sign" ["number"] sp_unknown_sign) : FnOk P w K mg base CX0 2 f fd ["self", "node", "most"] (sp_formula_of L) := by
  refine F.ok sc_Net_formula_of (fun vs H Q E h => ?_) (fun cdv A outer s H vs Q E hr h => ?_)
  · obtain ⟨n, N, x, y, st, node, most, rfl, _⟩ := h
    rfl
  · have n_len := T.n_len
    have n_list := T.n_list
    have n_reversed := T.n_reversed
    obtain ⟨f_leader, fd_leader, M_Net_leader, b_Net_leader, G_Net_leader⟩ := h_leader
    obtain ⟨f_is_unknown, fd_is_unknown, m_is_unknown, k_is_unknown, b_is_unknown, G_is_unknown⟩ := h_is_unknown
    obtain ⟨f_unknown_sign, fd_unknown_sign, m_unknown_sign, k_unknown_sign, b_unknown_sign, G_unknown_sign⟩ := h_unknown_sign
    refine ⟨_, pss_cons (ps_set (i := 3) sc_Net_formula_of.nd rfl (Or.inl rfl) (pe_lst pa_nil))
      (pss_cons (ps_set (i := 4) sc_Net_formula_of.nd rfl (Or.inl rfl) pe_dnewK)
      (pss_cons (ps_set (i := 5) sc_Net_formula_of.nd rfl (Or.inl rfl) (pe_lst (pa_cons (pv 1) pa_nil)))
      (pss_cons (ps_while PassesOwn.never (pt_truth (pv 5) (by intro _; rfl))
        (pss_cons (ps_if (pt_cmpR op_eq (pe_callB call_len_seq (by rfl) n_len PySem.boot_len (pa_cons (pv 3) pa_nil)) (pv 2) (nomark _))
            (pss_one (ps_ret pe_non))
            (pss_nil))
          (pss_cons (ps_set (i := 6) sc_Net_formula_of.nd rfl (Or.inl rfl) (pe_meth (pv 0) T.cNet M_Net_leader G_Net_leader (hr.mono (by decide)) b_Net_leader .nil pass0 (pa_cons (pe_bm0 PySem.F.plainAttrs_list PySem.F.slot_list_pop PySem.F.type_list_pop mt_pop (pv 5)) pa_nil)))
          (pss_one (ps_if (pt_val (pe_call G_is_unknown (hr.mono (by decide)) rfl m_is_unknown k_is_unknown b_is_unknown .nil pass0 (pa_cons (pe_ix ix_list (pe_fld (pv 0) rfl) (pv 6) (fun _ _ => rfl)) pa_nil)))
            (pss_one (ps_expr (pe_bm PySem.F.plainAttrs_list PySem.F.slot_list_append PySem.F.type_list_append mt_append (pv 3) (pa_cons (pe_dsetd (pv 4) (pv 6) (pe_call G_unknown_sign (hr.mono (by decide)) rfl m_unknown_sign k_unknown_sign b_unknown_sign .nil pass0 (pa_cons (pe_callB call_lenD (by rfl) n_len PySem.boot_len (pa_cons (pv 4) pa_nil)) pa_nil)) ⟨rfl, rfl, rfl, rfl⟩) pa_nil))))
            (pss_cons (ps_expr (pe_bm PySem.F.plainAttrs_list PySem.F.slot_list_append PySem.F.type_list_append mt_append (pv 3) (pa_cons (pe_ix ix_list (pe_fld (pv 0) rfl) (pv 6) (fun _ _ => rfl)) pa_nil)))
              (pss_one (ps_expr (pe_bm PySem.F.plainAttrs_list PySem.F.slot_list_extend PySem.F.type_list_extend mt_extend (pv 5) (pa_cons (pe_lstRev rfl (by rfl) n_list (by rfl) n_reversed (pe_ix ix_list (pe_fld (pv 0) rfl) (pv 6) (fun _ _ => rfl))) pa_nil))))))))))
      (pss_one (ps_ret (pv 3)))))), ?_⟩
    obtain ⟨n, N, x, y, st, node, most, rfl, hN, hM, hW, hnode, hm0, hm1, kN, kS⟩ := h
    have lkl : (netF n.ha n.pa n.sa).lookup ("leader" : Str) = none := net_none _ _ _ (by decide +kernel) (by decide +kernel) (by decide +kernel)
    refine ⟨(by decide), fun fo nfo => fun d nd => ?_⟩
    refine ⟨_, rfl, (by show 1 ≤ sizeLine; decide), fun p np => ?_⟩
    have nfd : fo ≠ d := ne_of_none upd_same nd
    have ndp : d ≠ p := ne_of_none upd_same np
    have nfp : fo ≠ p := ne_of_none (by rw [upd_ne nfd]; exact upd_same) np
    have nd0 : H d = none := by rw [upd_ne (Ne.symm nfd)] at nd; exact nd
    have np0 : H p = none := by rw [upd_ne (Ne.symm ndp), upd_ne (Ne.symm nfp)] at np; exact np
    have sN : Same H (upd (upd (upd H fo (.lst [])) d (.dK [])) p (.lst [iv node])) := ((same_new nfo).trans (same_new nd)).trans (same_new np)
    refine ⟨fun m σ H' => ∃ (o W : List Nat) (v6 : Option V), σ = [some (.ref n.a), some (iv node), some (iv most), some (.ref fo), some (.ref d), some (.ref p), v6] ∧ Same H H' ∧
        H' fo = some (.lst ((o.map (ren (keysOf [] (labs o)))).map iv)) ∧ H' d = some (.dK (kvsU (keysOf [] (labs o)))) ∧ H' p = some (.lst (W.map iv)) ∧ Fo N st node o W ∧ o.length ≤ most ∧ W.length ≤ 2 * o.length + 1 ∧ m = most - o.length,
      ⟨_, [], [node], none, rfl, sN, ?_, ?_, upd_same, Fo.start hnode, by simp, by simp, rfl⟩, ?_⟩
    · rw [upd_ne nfp, upd_ne nfd]; exact upd_same
    · rw [upd_ne ndp]; exact upd_same
    · rintro m σ H' ⟨o, W, v6, rfl, s5, hfo, hd, hp, hF, hol, hwl, rfl⟩
      have hN' := hN.same s5
      refine ⟨_, rfl, _, .inl ⟨_, SqL.of hp, rfl⟩, ?_⟩
      refine ite2 (fun c => ?_) (fun c => ?_)
      · have hne : W ≠ [] := by
          intro e
          subst e
          cases c
        refine ⟨fun σ' H2 => ∃ m', m' < most - o.length ∧ (∃ (o W : List Nat) (v6 : Option V), σ' = [some (.ref n.a), some (iv node), some (iv most), some (.ref fo), some (.ref d), some (.ref p), v6] ∧ Same H H2 ∧
          H2 fo = some (.lst ((o.map (ren (keysOf [] (labs o)))).map iv)) ∧ H2 d = some (.dK (kvsU (keysOf [] (labs o)))) ∧ H2 p = some (.lst (W.map iv)) ∧ Fo N st node o W ∧ o.length ≤ most ∧ W.length ≤ 2 * o.length + 1 ∧ m' = most - o.length), fun _ _ z => z, ?_⟩
        refine ⟨_, rfl, fo, _, rfl, .inl (SqL.of hfo), _, rfl, rfl, _, rfl, ?_⟩
        refine ite2 (fun c2 => ?_) (fun c2 => ?_)
        · have c2 : o.length = most := by have := V.int.inj (of_decide_eq_true c2); simp at this; omega
          refine kN H' s5 fun val C R => ?_
          rw [← c2]
          exact hF.big hne val C R
        · have c2 : o.length < most := by
            have : o.length ≠ most := fun e => c2 (decide_eq_true (by simp [e]))
            omega
          obtain ⟨W', x1, rfl⟩ : ∃ W' e, W = W' ++ [e] := ⟨_, _, (List.dropLast_concat_getLast hne).symm⟩
          obtain ⟨k1, r, l⟩ := hM.leads x1 (hF.lt x1 (by simp))
          have hr1 := hM.root_lt l
          have wl : W'.length + 1 ≤ 2 * o.length + 1 := by simpa using hwl
          refine ⟨_, rfl, n.a, _, _, rfl, hN'.obj, lkl, _, rfl, .inl ⟨rfl, _, SqL.of hp⟩, p, _, _, rfl, rfl, hp, (by rw [List.map_append]; exact last_app _ _), ?_⟩
          rw [List.map_append, List.map_cons, List.map_nil, List.dropLast_concat]
          have s6 : Same H (upd H' p (.lst (W'.map iv))) := fun b o z => by rw [upd_ne (ne_of_none z np0)]; exact s5 b o z
          have hfo1 : upd H' p (.lst (W'.map iv)) fo = some (.lst ((o.map (ren (keysOf [] (labs o)))).map iv)) := by rw [upd_ne nfp]; exact hfo
          have hd1 : upd H' p (.lst (W'.map iv)) d = some (.dK (kvsU (keysOf [] (labs o)))) := by rw [upd_ne ndp]; exact hd
          have hp1 : upd H' p (.lst (W'.map iv)) p = some (.lst (W'.map iv)) := upd_same
          generalize upd H' p (.lst (W'.map iv)) = H1 at *
          have hN1 := hN.same s6
          refine ⟨n, N, st, k1, x1, r, rfl, hN1, l, ?_⟩
          have hz9 : ((o.map (ren (keysOf [] (labs o)))).map iv).length < sizeLine := by
            simp only [List.length_map]; exact fitslt_of (by omega)
          refine ⟨_, rfl, n.a, _, _, _, _, rfl, hN1.obj, T.cNet, T.nNet_heads, net_heads _ _ _, ?_⟩
          have rdh : ∀ {r h : Nat}, N.hs[r]? = some h → atI (N.hs.map iv) (r : Int) = some (iv h) := fun h => iv_at h
          rcases hW.head hr1 with ⟨u, g, _⟩ | hhd
          · -- an unknown
            refine ⟨_, rfl, n.ha, _, _, _, rfl, rfl, SqL.of hN1.hs, rdh g, _, rfl, _, rfl, ?_⟩
            refine iteT' (by decide) ?_
            have hkl : (kvsU (keysOf [] (labs o))).length < sizeLine := by
              rw [kvsU, List.length_map]
              have := labs_len o
              exact fitslt_of (by omega)
            have kvs1 := kvsU_val (keysOf [] (labs o)) r
            refine ⟨_, rfl, .inl ⟨rfl, _, SqL.of hfo1⟩, _, rfl, d, rfl, .inl ⟨_, .inl hd1⟩, _, rfl, _, rfl, d, _, rfl, hd1, _, rfl, ?_⟩
            refine ⟨_, keyU r, hd1, rfl, hkl, fun v hv => ?_, fun hn => ?_⟩
            · rw [kvs1] at hv
              by_cases hin : r ∈ keysOf [] (labs o)
              · rw [if_pos hin] at hv
                obtain rfl := Option.some.inj hv
                have ea : addKey (keysOf [] (labs o)) r = keysOf [] (labs o) := by
                  unfold addKey
                  rw [if_pos (List.contains_iff_mem.mpr hin)]
                refine ⟨fo, _, _, rfl, rfl, hfo1, hz9, ?_⟩
                refine ⟨most - (o ++ [r + 2]).length, by simp; omega, o ++ [r + 2], W', _, rfl, fun b u z => by rw [upd_ne (ne_of_none z nfo)]; exact s6 b u z, ?_, ?_, ?_, hF.u l u, by simp; omega, by simp; omega, rfl⟩
                · rw [upd_same, ren_new, ea]; simp
                · rw [upd_ne (Ne.symm nfd), labs_snoc_u, ea]; exact hd1
                · rw [upd_ne (Ne.symm nfp)]; exact hp1
              · rw [if_neg hin] at hv
                cases hv
            · rw [kvs1] at hn
              by_cases hin : r ∈ keysOf [] (labs o)
              · rw [if_pos hin] at hn
                cases hn
              · have hvn : valV (kvsU (keysOf [] (labs o))) (keyU r) = none := by rw [kvs1, if_neg hin]
                rw [putK_new _ hvn]
                have ea : addKey (keysOf [] (labs o)) r = keysOf [] (labs o) ++ [r] := by
                  unfold addKey
                  rw [if_neg (fun z => hin (List.contains_iff_mem.mp z))]
                have ev : (2 : Int) + ((kvsU (keysOf [] (labs o))).length : Nat) = (((keysOf [] (labs o)).length + 2 : Nat) : Int) := by
                  rw [kvsU, List.length_map]; omega
                rw [ev, kvsU_snoc hin]
                have hfo2 : upd H1 d (.dK (kvsU (keysOf [] (labs o) ++ [r]))) fo = some (.lst ((o.map (ren (keysOf [] (labs o)))).map iv)) := by rw [upd_ne nfd]; exact hfo1
                refine ⟨fo, _, _, rfl, rfl, hfo2, hz9, ?_⟩
                refine ⟨most - (o ++ [r + 2]).length, by simp; omega, o ++ [r + 2], W', _, rfl, fun b u z => by rw [upd_ne (ne_of_none z nfo), upd_ne (ne_of_none z nd0)]; exact s6 b u z, ?_, ?_, ?_, hF.u l u, by simp; omega, by simp; omega, rfl⟩
                · rw [upd_same, ren_new, ea, idx_new hin]; simp
                · rw [upd_ne (Ne.symm nfd), labs_snoc_u, ea]; exact upd_same
                · rw [upd_ne (Ne.symm nfp), upd_ne (Ne.symm ndp)]; exact hp1
          · -- an implication, a denial
            obtain ⟨hd0, ps0, g, g2, hlow, hlen2, hFo⟩ : ∃ hd0 ps0, N.hs[r]? = some hd0 ∧ N.ps[r]? = some ps0 ∧ hd0 < 2 ∧ ps0.length ≤ 2 ∧ Fo N st node (o ++ [hd0]) (W' ++ ps0.reverse) := by
              rcases hhd with ⟨p1, i1, e1, e2⟩ | ⟨p1, q1, i1, e1, e2⟩
              · exact ⟨1, [p1], e1, e2, by decide, by simp, hF.n hW l i1⟩
              · exact ⟨0, [p1, q1], e1, e2, by decide, by simp, hF.i hW l i1⟩
            refine ⟨_, rfl, n.ha, _, _, _, rfl, rfl, SqL.of hN1.hs, rdh g, _, rfl, _, rfl, ?_⟩
            refine iteF' (by simp; omega) ?_
            refine ⟨_, rfl, .inl ⟨rfl, _, SqL.of hfo1⟩, _, rfl, n.a, _, _, _, _, rfl, hN1.obj, T.cNet, T.nNet_heads, net_heads _ _ _, _, rfl, n.ha, _, _, _, rfl, rfl, SqL.of hN1.hs, rdh g, fo, _, _, rfl, rfl, hfo1, hz9, ?_⟩
            have s7 : Same H (upd H1 fo (.lst ((o.map (ren (keysOf [] (labs o)))).map iv ++ [iv hd0]))) := fun b u z => by rw [upd_ne (ne_of_none z nfo)]; exact s6 b u z
            have hfo2 : upd H1 fo (.lst ((o.map (ren (keysOf [] (labs o)))).map iv ++ [iv hd0])) fo = some (.lst ((o.map (ren (keysOf [] (labs o)))).map iv ++ [iv hd0])) := upd_same
            have hd2 : upd H1 fo (.lst ((o.map (ren (keysOf [] (labs o)))).map iv ++ [iv hd0])) d = some (.dK (kvsU (keysOf [] (labs o)))) := by rw [upd_ne (Ne.symm nfd)]; exact hd1
            have hp2 : upd H1 fo (.lst ((o.map (ren (keysOf [] (labs o)))).map iv ++ [iv hd0])) p = some (.lst (W'.map iv)) := by rw [upd_ne (Ne.symm nfp)]; exact hp1
            generalize upd H1 fo (.lst ((o.map (ren (keysOf [] (labs o)))).map iv ++ [iv hd0])) = H2 at *
            have hN2 := hN.same s7
            obtain ⟨pv2, ps1, ps2⟩ := hN2.ps
            obtain ⟨qa, ga, ha⟩ := ps2.get g2
            refine ⟨_, rfl, .inl ⟨rfl, _, SqL.of hp2⟩, _, rfl, n.a, _, _, _, _, rfl, hN2.obj, T.cNet, T.nNet_parts, net_parts _ _ _, _, rfl, n.pa, _, _, _, rfl, rfl, SqL.of ps1, atI_nat ga, qa, _, rfl, SqT.of ha, fun q nq => ?_⟩
            have npq : p ≠ q := ne_of_none hp2 nq
            refine ⟨p, q, _, _, rfl, rfl, by rw [upd_ne npq]; exact hp2, upd_same, ?_, ?_⟩
            · simp only [List.length_map, List.length_reverse]
              exact fits_of (by omega)
            · refine ⟨most - (o ++ [hd0]).length, by simp; omega, o ++ [hd0], W' ++ ps0.reverse, _, rfl, fun b u z => ?_, ?_, ?_, ?_, hFo, by simp; omega, by simp; omega, rfl⟩
              · have z1 := s7 b u z
                rw [upd_ne (ne_of_none z np0), upd_ne (ne_of_none z1 nq)]
                exact z1
              · rw [upd_ne nfp, upd_ne (ne_of_none hfo2 nq), hfo2, ren_old o hlow]; simp
              · rw [upd_ne ndp, upd_ne (ne_of_none hd2 nq), labs_snoc_o o hlow]; exact hd2
              · rw [upd_same, List.map_append, List.map_reverse]
      · have e : W = [] := by
          cases W with
          | nil => rfl
          | cons v vs => exact absurd rfl c
        subst e
        obtain ⟨t, ht, et⟩ := hF.end_
        refine ⟨_, rfl, kS H' fo t s5 nfo ?_ ht ?_⟩
        · rw [hfo, encV, ← ren_normal et]
        · rw [← enc_length, et]; exact hol
end
end Dr

namespace Dr
open PySem PySem.Spec PyProof.Rows L2
open Vapcma (Form)
/-- a formula, or None -/
def OptIs (H : Hp) (v : V) : Option Form → Prop
  | none => v = .non
  | some f => ∃ a, v = .ref a ∧ H a = some (.lst (encV f))
def detachO (o1 o2 : Option Form) : Option Form := o1.bind fun f => o2.bind fun g => Vapcma.detach f g
section
variable {P : Program} {w : World} {K : PySem.W.Frag} {mg : Str → Option Value} {base : Heap} {L : Lay}
def sp_detached : Sp := fun vs H Q _ => ∃ (v1 v2 : V) (o1 o2 : Option Form), vs = [v1, v2] ∧ OptIs H v1 o1 ∧ OptIs H v2 o2 ∧ (∀ f, o1 = some f → Vapcma.size f ≤ 400) ∧ (∀ f, o2 = some f → Vapcma.size f ≤ 400) ∧
  (detachO o1 o2 = none → ∀ H', Same H H' → Q .non H') ∧ ∀ r, detachO o1 o2 = some r → ∀ H' p, Same H H' → H p = none → H' p = some (.lst (encV r)) → Q (.ref p) H'
abbrev s_detached : Stmt := top 17
theorem sc_detached : FnScope ["first", "second", "net", "parts"] ["first", "second"] (defScope s_detached) := ⟨rfl, rfl, rfl, by decide +kernel, rfl, by decide +kernel, by decide +kernel⟩
theorem ok_detached {f : Addr} {fd : FuncData} (F : Fun K "detached" "detached" s_detached f fd) (T : Txt K mg L)
    (h_is_unknown : HasDef P w K mg base CX0 1 "is_unknown" ["sign"] sp_is_unknown) (h_unknown_sign : HasDef P w K mg base CX0 1 "unknown_sign" ["number"] sp_unknown_sign)
    (h_Net : HasMake P w K mg base CX0 1 "Net" L.Net ["self"] (sp_Net_init L)) (h_add_formula : HasMeth P w K mg base CX0 2 L.Net "add_formula" ["self", "formula"] (sp_add_formula K L))
    (h_make_same : HasMeth P w K mg base CX0 2 L.Net "make_same" ["self", "one", "other"] (sp_make_same L)) (h_formula_of : HasMeth P w K mg base CX0 2 L.Net "formula_of" ["self", "node", "most"] (sp_formula_of L)) :
    FnOk P w K mg base CX0 3 f fd ["first", "second"] sp_detached := by
  refine F.ok sc_detached (fun vs H Q E h => ?_) (fun cdv A outer s H vs Q E hr h => ?_)
  · obtain ⟨v1, v2, o1, o2, rfl, _⟩ := h
    rfl
  · obtain ⟨t0, g_DENIES⟩ := T.vDENIES
    obtain ⟨t1, g_MOST_FITTED⟩ := T.vMOST_FITTED
    obtain ⟨t2, g_MOST_DETACHED⟩ := T.vMOST_DETACHED
    obtain ⟨f_is_unknown, fd_is_unknown, m_is_unknown, k_is_unknown, b_is_unknown, G_is_unknown⟩ := h_is_unknown
    obtain ⟨f_unknown_sign, fd_unknown_sign, m_unknown_sign, k_unknown_sign, b_unknown_sign, G_unknown_sign⟩ := h_unknown_sign
    obtain ⟨f_Net, fd_Net, MK_Net, m_Net, b_Net, G_Net⟩ := h_Net
    obtain ⟨f_af, fd_af, M_Net_add_formula, b_Net_add_formula, G_Net_add_formula⟩ := h_add_formula
    obtain ⟨f_ms, fd_ms, M_Net_make_same, b_Net_make_same, G_Net_make_same⟩ := h_make_same
    obtain ⟨f_fo, fd_fo, M_Net_formula_of, b_Net_formula_of, G_Net_formula_of⟩ := h_formula_of
    refine ⟨_, pss_cons (ps_if (PW.pt (pw_or (pt_cmpR op_isN (pv 0) pe_non (nomark _)) (pw_or (pt_cmpR op_isN (pv 1) pe_non (nomark _)) (pw_or1 (pt_cmpR op_eq (pe_ix ix_list (pv 0) pe_int (fun _ _ => rfl)) (pe_gi g_DENIES) (nomark _))))))
        (pss_one (ps_ret pe_non))
        (pss_nil))
      (pss_cons (ps_if (pt_val (pe_call G_is_unknown (hr.mono (by decide)) rfl m_is_unknown k_is_unknown b_is_unknown .nil pass0 (pa_cons (pe_ix ix_list (pv 0) pe_int (fun _ _ => rfl)) pa_nil)))
        (pss_one (ps_ret (pe_lst (pa_cons (pe_call G_unknown_sign (hr.mono (by decide)) rfl m_unknown_sign k_unknown_sign b_unknown_sign .nil pass0 (pa_cons pe_int pa_nil)) pa_nil))))
        (pss_nil))
      (pss_cons (ps_set (i := 2) sc_detached.nd rfl (Or.inl rfl) (pe_make0 MK_Net G_Net (hr.mono (by decide)) rfl m_Net b_Net .nil pass0))
      (pss_cons (ps_set (i := 3) sc_detached.nd rfl (Or.inl rfl) (pe_ix ix_list (pe_fld (pv 2) rfl) (pe_meth (pv 2) T.cNet M_Net_add_formula G_Net_add_formula (hr.mono (by decide)) b_Net_add_formula .nil pass0 (pa_cons (pv 0) pa_nil)) (fun _ _ => rfl)))
      (pss_cons (ps_if (pt_not (pt_val (pe_meth (pv 2) T.cNet M_Net_make_same G_Net_make_same (hr.mono (by decide)) b_Net_make_same .nil pass0 (pa_cons (pe_ix ix_tup (pv 3) pe_int (fun _ _ => rfl)) (pa_cons (pe_meth (pv 2) T.cNet M_Net_add_formula G_Net_add_formula (hr.mono (by decide)) b_Net_add_formula .nil pass0 (pa_cons (pv 1) pa_nil)) pa_nil)))))
        (pss_one (ps_ret pe_non))
        (pss_nil))
      (pss_cons (ps_if (pt_cmpR op_isN (pe_meth (pv 2) T.cNet M_Net_formula_of G_Net_formula_of (hr.mono (by decide)) b_Net_formula_of .nil pass0 (pa_cons (pe_ix ix_tup (pv 3) pe_int (fun _ _ => rfl)) (pa_cons (pe_gi g_MOST_FITTED) pa_nil))) pe_non (nomark _))
        (pss_one (ps_ret pe_non))
        (pss_nil))
      (pss_one (ps_ret (pe_meth (pv 2) T.cNet M_Net_formula_of G_Net_formula_of (hr.mono (by decide)) b_Net_formula_of .nil pass0 (pa_cons (pe_ix ix_tup (pv 3) pe_int (fun _ _ => rfl)) (pa_cons (pe_gi g_MOST_DETACHED) pa_nil)))))))))), ?_⟩
    obtain ⟨v1, v2, o1, o2, rfl, i1, i2, z1, z2, kN, kS⟩ := h
    cases o1 with
    | none =>
      obtain rfl : v1 = .non := i1
      refine ⟨_, rfl, rfl, _, rfl, ?_⟩
      refine iteT' (by decide) ?_
      refine iteT ?_
      exact kN rfl H (Same.refl H)
    | some f =>
    obtain ⟨a1, rfl, h1⟩ := i1
    refine ⟨_, rfl, rfl, _, rfl, ?_⟩
    refine iteF' (by simp) ?_
    cases o2 with
    | none =>
      obtain rfl : v2 = .non := i2
      refine ⟨_, rfl, rfl, _, rfl, ?_⟩
      refine iteT' (by decide) ?_
      refine iteT ?_
      exact kN rfl H (Same.refl H)
    | some g =>
    obtain ⟨a2, rfl, h2⟩ := i2
    have zf := z1 f rfl
    have zg := z2 g rfl
    refine ⟨_, rfl, rfl, _, rfl, ?_⟩
    refine iteF' (by simp) ?_
    obtain ⟨hd, rest, ef, _⟩ := enc_head f
    have hh : atI (encV f) 0 = some (iv hd) := atI_nat (j := 0) (by rw [encV, ef]; rfl)
    refine ⟨_, rfl, a1, _, 0, _, rfl, rfl, SqL.of h1, hh, rfl, _, rfl, ?_⟩
    match f, ef, kN, kS, h1, hh, zf with
    | .neg x, ef, kN, kS, h1, hh, zf =>
      obtain rfl : hd = 1 := (List.cons.inj ef).1.symm
      refine iteT' (by decide) ?_
      exact kN rfl H (Same.refl H)
    | .var v, ef, kN, kS, h1, hh, zf =>
      obtain rfl : hd = v + 2 := (List.cons.inj ef).1.symm
      refine iteF' (by simp; omega) ?_
      refine ⟨_, rfl, a1, _, 0, _, rfl, rfl, SqL.of h1, hh, _, rfl, _, rfl, ?_⟩
      refine iteT' (by simp; omega) ?_
      refine ⟨0, rfl, (by show 1 ≤ sizeLine; decide), fun p np => ?_⟩
      exact kS (.var 0) rfl _ p (same_new np) np upd_same
    | .imp a b, ef, kN, kS, h1, hh, zf =>
      obtain rfl : hd = 0 := (List.cons.inj ef).1.symm
      refine iteF' (by decide) ?_
      refine ⟨_, rfl, a1, _, 0, _, rfl, rfl, SqL.of h1, hh, _, rfl, _, rfl, ?_⟩
      refine iteF' (by decide) ?_
      -- a new net
      intro x dx nx ndx ne
      refine ⟨x, dx, rfl, upd_same, fun H1 n en1 en2 hN1 kp1 nw1 => ⟨rfl, ?_⟩⟩
      subst en1
      subst en2
      have s1 : Same H H1 := Same.made nx ndx kp1
      have nsH : ∀ b, NetS n b → H b = none := fun b hb => by
        have := nw1 b hb
        by_cases e : b = n.a
        · rw [e]; exact nx
        · rw [upd_ne e] at this
          by_cases e2 : b = n.dx
          · rw [e2]; exact ndx
          · rw [upd_ne e2] at this; exact this
      have out : ∀ {b o}, H b = some o → ¬ NetS n b := fun z hb => by rw [nsH _ hb] at z; cases z
      have lkA : (netF n.ha n.pa n.sa).lookup ("add_formula" : Str) = none := net_none _ _ _ (by decide +kernel) (by decide +kernel) (by decide +kernel)
      have lkM : (netF n.ha n.pa n.sa).lookup ("make_same" : Str) = none := net_none _ _ _ (by decide +kernel) (by decide +kernel) (by decide +kernel)
      have lkF : (netF n.ha n.pa n.sa).lookup ("formula_of" : Str) = none := net_none _ _ _ (by decide +kernel) (by decide +kernel) (by decide +kernel)
      refine ⟨_, rfl, n.a, _, _, _, _, rfl, hN1.obj, T.cNet, T.nNet_parts, net_parts _ _ _, _, rfl, n.a, _, _, rfl, hN1.obj, lkA, _, rfl, ?_⟩
      refine ⟨n, ⟨[], []⟩, a1, .imp a b, rfl, hN1, ⟨rfl, fun n hn => absurd hn (Nat.not_lt_zero _)⟩, SqL.of (s1 _ _ h1), out h1, (by decide), by omega, fun H2 N1 m1 r1 hN2 P1 l1 f1 => ?_⟩
      have s2 : Same H H2 := fun b o z => f1 b o (s1 b o z) (out z)
      obtain ⟨pa, pb, hI, ra, rb⟩ := P1.rep
      obtain ⟨pv1, ps1, ps2⟩ := hN2.ps
      obtain ⟨qt, gq, hq⟩ := ps2.get hI.2
      refine ⟨n.pa, _, _, _, rfl, rfl, SqL.of ps1, atI_nat gq, ?_⟩
      have hq : H2 qt = some (.tup [iv pa, iv pb]) := hq
      refine ⟨_, rfl, n.a, _, _, rfl, hN2.obj, lkM, _, rfl, qt, _, 0, _, rfl, rfl, SqT.of hq, atI_nat (j := 0) rfl, _, rfl, n.a, _, _, rfl, hN2.obj, lkA, _, rfl, ?_⟩
      have l1' : N1.hs.length ≤ 500 := by
        have : ([] : List Nat).length = 0 := rfl
        simp at l1
        omega
      refine ⟨n, N1, a2, g, rfl, hN2, P1.wf, SqL.of (s2 _ _ h2), out h2, by omega, by omega, fun H3 N2 m2 r2 hN3 P2 l2 f2 => ?_⟩
      have s3 : Same H H3 := fun b o z => f2 b o (s2 b o z) (out z)
      have nqt : ¬ NetS n qt := by
        rintro (e | e | e)
        · rw [e, hN2.hs] at hq; cases hq
        · rw [e, ps1] at hq; cases hq
        · rw [e, hN2.st] at hq; cases hq
      have hq3 : H3 qt = some (.tup [iv pa, iv pb]) := f2 _ _ hq nqt
      have TW := two_of P1 P2 hI
      have hpa : pa < N2.hs.length := Nat.lt_of_lt_of_le ra.lt P2.ext.le
      have hpb : pb < N2.hs.length := Nat.lt_of_lt_of_le rb.lt P2.ext.le
      have hr2 : r2 < N2.hs.length := P2.rep.lt
      have za : Vapcma.size a ≤ 1000 := by
        simp only [Vapcma.size] at zf; omega
      have dI := detach_imp a b g
      refine ⟨n, N2, pa, r2, rfl, hN3, P2.wf, hpa, hr2, by omega, fun H4 hcl f3 => ?_, fun H4 st' hM hN4 f3 => ?_⟩
      · refine ⟨_, rfl, ?_⟩
        refine iteT' (by decide) ?_
        refine kN ?_ H4 (fun b o z => f3 b o (s3 b o z) (out z))
        show Vapcma.detach (.imp a b) g = none
        rw [dI, TW.no za hcl]
        rfl
      · refine ⟨_, rfl, ?_⟩
        refine iteF' (by decide) ?_
        have s4 : Same H H4 := fun b o z => f3 b o (s3 b o z) (out z)
        have hq4 : H4 qt = some (.tup [iv pa, iv pb]) := f3 _ _ hq3 nqt
        refine ⟨_, rfl, n.a, _, _, rfl, hN4.obj, lkF, _, rfl, qt, _, 0, _, rfl, rfl, SqT.of hq4, atI_nat (j := 0) rfl, ?_⟩
        refine ⟨n, N2, pa, r2, st', pa, 1000, rfl, hN4, hM, P2.wf, hpa, by decide, by decide, fun H5 s5 hbig => ?_, fun H5 p t s5 np hp ht hz => ?_⟩
        · refine ⟨rfl, _, rfl, ?_⟩
          refine iteT' (by decide) ?_
          refine kN ?_ H5 (s4.trans s5)
          show Vapcma.detach (.imp a b) g = none
          rw [dI, TW.large za hM hbig]
          rfl
        · refine ⟨rfl, _, rfl, ?_⟩
          refine iteF' (by simp) ?_
          have hN5 := hN4.same s5
          refine ⟨_, rfl, n.a, _, _, rfl, hN5.obj, lkF, _, rfl, qt, _, 1, _, rfl, rfl, SqT.of (s5 _ _ hq4), atI_nat (j := 1) rfl, ?_⟩
          refine ⟨n, N2, pa, r2, st', pb, 60, rfl, hN5, hM, P2.wf, hpb, by decide, by decide, fun H6 s6 hbig => ?_, fun H6 p6 u s6 np6 hp6 hu hz6 => ?_⟩
          · refine kN ?_ H6 ((s4.trans s5).trans s6)
            exact TW.detach_none za hM ht hz hbig
          · exact kS _ (TW.detach_some za hM ht hz hu hz6) H6 p6 ((s4.trans s5).trans s6) ((s4.trans s5).free np6) hp6
end
end Dr

/-! faults.py: an own error over Exception with two fields -/
namespace PySem
namespace FltX
open PySem.W PySem.Calls PyProof.Rows PySem.HandSPX
def iA (p1 p2 p3 : Pos) : Arguments := { posonlyargs := [], args := [{ arg := "self", annotation := none, pos := p1 }, { arg := "code", annotation := none, pos := p2 }, { arg := "place", annotation := none, pos := p3 }], vararg := none, kwonlyargs := [], kw_defaults := [], kwarg := none, defaults := [] }
def iB (q1 q2 q3 q4 q5 q6 q7 q8 : Pos) : List Stmt := [.Assign [.Attribute (.Name "self" q1) "code" q2] (.Name "code" q3) q4, .Assign [.Attribute (.Name "self" q5) "place" q6] (.Name "place" q7) q8]
def iS : Scope := { kind := .function, names := [(PySem.Str.ofString "self", .local), (PySem.Str.ofString "code", .local), (PySem.Str.ofString "place", .local)], isGenerator := false, isCoroutine := false, more := [] }
structure FltTxt (K : Frag) (mg : Str → Option Value) (C fI : Addr) : Prop where
  gC : mg "Fault" = some (.ref C)
  cls : ∃ nm q N bs sn sub ab col dd k0 k1 k2 k3 k5, K.lookup C = some (excClassObj nm q C N bs ESX.exTail true sn sub ab col dd k0 k1 k2 k3 k5 "Exception.__new__")
  sa : findIn K (.ref C) "__setattr__" = some (some (.builtin "object.__setattr__"))
  ga : findIn K (.ref C) "__getattribute__" = some (some (.builtin "BaseException.__getattribute__"))
  gg : findIn K (.ref C) "__getattr__" = some none
  noC : findIn K (.ref C) "code" = some none
  noP : findIn K (.ref C) "place" = some none
  iC : findIn K (.ref C) "__init__" = some (some (.ref fI))
  tC : typeIn K (.ref fI) = some (.type "function")
  kC : keepIn K (.ref C) = true
  exC : subIn K (.ref C) (.type "BaseException") = some true
  tyC : typeIn K (.ref C) = some (.type "type")
  hdC : hasDictIn K C = true
  te : exmOne K (.ref C) (.ref C) = some true
  fn : ∃ (oc : Value) (od : Option Addr) (doc pm : Value) (an : Option Addr) (cdv ct : Value) (osl : Array (Option Value)) (p1 p2 p3 q1 q2 q3 q4 q5 q6 q7 q8 : Pos),
    K.lookup fI = some ⟨oc, od, .func (fnOf "__init__" "Fault.__init__" (iA p1 p2 p3) (iB q1 q2 q3 q4 q5 q6 q7 q8) iS .none .none doc pm an cdv ct), osl⟩ ∧ codeIn K cdv "Fault.__init__" = true
theorem two_size (a b : Value) : [a, b].length ≤ sizeLine := by
  rw [sizeLine_eq]
  exact (by decide : 2 ≤ 16777216)
theorem ldC {M : Model} {s : Shared} {name : Str} {scope : Scope} {L a : Addr} {cd : Value} {m : Str → Option Value} {x : Str} {pos : Pos} {v : Value} {Q : Value → Shared → Prop} {A : Around} {E : Value → Shared → Prop} (hn : s.heap.Ns L m) (hv : m x = some v) (h : Q v s)
    (hk : scope.kind = .function := by rfl) (hl : (envOfC name scope L a cd).kindOf x = some .local := by rfl) (hd : (x == ("__debug__" : Str)) = false := by decide) :
    wpAny M A (eval (.Name x pos) (envOfC name scope L a cd)) Q E s := wpAny_Name (wpAny_loadName_local hk hl hn hv h) hd
abbrev mF (a b : Value) : Str → Option Value := fun y => if y = "place" then some b else if y = "code" then some a else none
structure InitEnd (h h' : Heap) (x C dx t1 : Addr) (a b : Value) : Prop where
  keep : ∀ b o, b ≠ x → h.get? b = some o → h'.get? b = some o
  obj : h'.get? x = some { cls := .ref C, dict := some dx, data := .fields #[.ref t1, .none, .none, .none, .bool false, .none] }
  dbig : h.objs.size ≤ dx
  dne : dx ≠ x
  ns : h'.Ns1 dx (mF a b)
structure OwnMade (h h' : Heap) (e C d : Addr) (a b : Value) : Prop where
  keep : ∀ b o, h.get? b = some o → h'.get? b = some o
  new : h.objs.size ≤ e
  obj : ∃ oe vs, h'.get? e = some oe ∧ oe.cls = .ref C ∧ oe.dict = some d ∧ oe.data = .fields vs ∧ vs[1]? = some .none
  dbig : h.objs.size ≤ d
  dne : d ≠ e
  ns : h'.Ns1 d (mF a b)
section
variable {prog : Program} {w : World} {A : Around} {E : Value → Shared → Prop} {R : Result → Shared → Prop} {s : Shared} {K : Frag} {mg : Str → Option Value} {C fI : Addr}
theorem flt_init (T : FltTxt K mg C fI) {x t0 : Addr} {a b : Value} (X : K.In s.heap) (hlim : s.heap.NoLimit) (hx : s.heap.get? x = some (excO C t0)) (hnx : K.lookup x = none) (hroom : A.depth < recursionLimit)
    (hq : ∀ h' tk dx, InitEnd s.heap h' x C dx t0 a b → R (.ok (.ret .none)) { s with heap := h', toks := tk }) :
    codeAny (model prog w) A (.call (.ref fI) ⟨[.ref x, a, b], []⟩) R s := by
  obtain ⟨oc, od, doc, pm, an, cdv, ct, osl, p1, p2, p3, q1, q2, q3, q4, q5, q6, q7, q8, ho, hcd⟩ := T.fn
  obtain ⟨nm, q, N, bs, sn, sub, ab, col, dd, k0, k1, k2, k3, k5, hC⟩ := T.cls
  have hcl : clsIn K C = some { name := nm, bases := bs, mro := .ref C :: ESX.exTail, ns := N, qualname := q, hasDict := true, slotNames := sn, subclasses := sub, abstract := ab, collection := col, hasDel := false } := by unfold clsIn; rw [hC] <;> rfl
  refine Att.call_fn (binds := [("self", .ref x), ("code", a), ("place", b)]) X hlim ho hcd hroom (BindsTo.of_eq (by first | rfl | with_unfolding_all rfl)) (by first | rfl | decide | with_unfolding_all rfl) (fun s₁ IC => ?_) rfl rfl rfl
  obtain ⟨h₁, tk₁, rfl⟩ := IC.toInCall.same
  have k : ∀ b o, s.heap.get? b = some o → h₁.get? b = some o := IC.toInCall.keep
  have hn := IC.toInCall.ns
  have hxL : s.heap.objs.size ≠ x := Nat.ne_of_gt (Heap.lt_size hx)
  have X₁ : K.In h₁ := X.keeps k
  have hx₁ := k _ _ hx
  show wpAny _ _ (execs _ _) _ _ _
  refine wpAny_execs_cons (plainObj_wpAny_Assign_Attribute ?_)
  refine ldC (v := a) hn (by first | rfl | with_unfolding_all rfl | kernel_rfl) (ldC (v := .ref x) hn (by first | rfl | with_unfolding_all rfl | kernel_rfl) ?_)
  refine set_plain X₁ (ox := excO C t0) (od := none) ⟨hx₁, rfl, rfl, trivial⟩ T.sa ?_
  refine ESX.osa_new X₁ hx₁ hcl rfl rfl T.noC (fun h₃ tk₃ dx k₃ dn dne hx₃ hn₃ => ?_)
  have hn3 := hn.at (fun o e => k₃ _ o hxL e)
  have X3 : K.In h₃ := fun c o e => k₃ c o (fun z => by rw [z, hnx] at e; cases e) (X₁ c o e)
  show wpAny _ _ (execs _ _) _ _ _
  refine wpAny_execs_cons (plainObj_wpAny_Assign_Attribute ?_)
  refine ldC (v := b) hn3 (by first | rfl | with_unfolding_all rfl | kernel_rfl) (ldC (v := .ref x) hn3 (by first | rfl | with_unfolding_all rfl | kernel_rfl) ?_)
  have hw : Within (fun y => if y = ("code" : Str) then some a else none) ["code"] := Within.cons "code" a Within.nil
  obtain ⟨oD, esD, epD, hoD, hdD, hcD⟩ := hn₃.count hw
  refine set_plain X3 (ox := { cls := .ref C, dict := some dx, data := .fields #[.ref t0, .none, .none, .none, .bool false, .none] }) (od := some oD) ⟨hx₃, rfl, rfl, hoD⟩ T.sa ?_
  refine ESX.osa_old X3 hx₃ hn₃ hw (by decide) hcl rfl rfl T.noP (fun h₅ tk₅ k₅ hn₅ => ?_)
  show wpAny _ _ (execs _ _) _ _ _
  have z : s.heap.objs.size < h₁.objs.size := hn.lt
  have zd : s.heap.objs.size ≤ dx := Nat.le_of_lt (Nat.lt_of_lt_of_le z dn)
  exact wpAny_execs_nil (hq h₅ tk₅ dx ⟨fun c o hc e => k₅ c o (Nat.ne_of_lt (Nat.lt_of_lt_of_le (Heap.lt_size e) zd)) (k₃ c o hc (k c o e)), k₅ _ _ (Ne.symm dne) hx₃, zd, dne, hn₅⟩)
theorem flt_made (T : FltTxt K mg C fI) {a b : Value} (X : K.In s.heap) (hlim : s.heap.NoLimit) (hroom : A.depth + 1 < recursionLimit)
    (hq : ∀ h' tk e d, OwnMade s.heap h' e C d a b → R (.ok (.ret (.ref e))) { s with heap := h', toks := tk }) :
    codeAny (model prog w) A (.call (.ref C) ⟨[a, b], []⟩) R s := by
  obtain ⟨nm, q, N, bs, sn, sub, ab, col, dd, k0, k1, k2, k3, k5, hC⟩ := T.cls
  obtain ⟨hp, g, dr, tk, os⟩ := s
  have k : ∀ c o, hp.get? c = some o → ((hp.push (kdv_tup [a, b])).push (excO C hp.objs.size)).get? c = some o := fun c o e => Heap.get?_push_of_some _ (Heap.get?_push_of_some _ e)
  have hget : ((hp.push (kdv_tup [a, b])).push (excO C hp.objs.size)).get? (hp.objs.size + 1) = some (excO C hp.objs.size) := by heap_get
  have hnx : K.lookup (hp.objs.size + 1) = none := by
    cases e : K.lookup (hp.objs.size + 1) with
    | none => rfl
    | some o =>
      have z : hp.get? (hp.objs.size + 1) = some o := X _ _ e
      exact absurd (Nat.lt_of_succ_lt (Heap.lt_size z)) (Nat.lt_irrefl _)
  refine call_own F.excBase_Exception (fun _ => rfl) (X _ _ hC) (looks_findIn X T.iC) (fun self => bind_fn X self T.tC) (two_size a b) ?_
  refine flt_init (s := ⟨(hp.push (kdv_tup [a, b])).push (excO C hp.objs.size), g, dr, tk, os⟩) T (X.keeps k) (hlim.keeps k) hget hnx ?_ fun h' tk' dx ⟨k', hx, dn, dne, hns⟩ => ?_
  · show A.depth + 1 < recursionLimit
    exact hroom
  · have old : ∀ c o, hp.get? c = some o → h'.get? c = some o := fun c o e => k' c o (Nat.ne_of_lt (Nat.lt_succ_of_lt (Heap.lt_size e))) (k c o e)
    have z : hp.objs.size + 1 + 1 ≤ dx := by
      first
        | (simpa only [Heap.size_push] using dn)
        | exact dn
        | (have q := dn; rw [Heap.size_push, Heap.size_push] at q; exact q)
    exact ⟨rfl, hq h' tk' (hp.objs.size + 1) dx ⟨old, Nat.le_succ _, ⟨_, _, hx, rfl, rfl, rfl, rfl⟩, Nat.le_trans (Nat.le_trans (Nat.le_succ _) (Nat.le_succ _)) z, dne, hns⟩⟩
end
end FltX
end PySem
namespace L2
open PySem PySem.Spec PyProof.Rows
/-- a fault's fields -/
def fltF (a b : V) : List (Str × V) := [("code", a), ("place", b)]
theorem fltF_code (a b : V) : (fltF a b).lookup ("code" : Str) = some a := by simp [fltF, List.lookup]
theorem fltF_place (a b : V) : (fltF a b).lookup ("place" : Str) = some b := by
  have e : (("place" : Str) == ("code" : Str)) = false := by decide +kernel
  simp only [fltF, List.lookup, e, beq_self_eq_true]
theorem relO_flt {a b : V} {a' b' : Value} (ra : RelV a a') (rb : RelV b b') (f : Str) : RelO (List.lookup f (fltF a b)) (PySem.FltX.mF a' b' f) := by
  by_cases hp : f = "place"
  · subst hp
    rw [fltF_place]
    show RelO _ (if _ then _ else _)
    rw [if_pos rfl]
    exact rb
  · by_cases hc : f = "code"
    · subst hc
      rw [fltF_code]
      show RelO _ (if _ then _ else _)
      rw [if_neg hp, if_pos rfl]
      exact ra
    · have e1 : (f == ("place" : Str)) = false := by simpa using hp
      have e2 : (f == ("code" : Str)) = false := by simpa using hc
      have l : List.lookup f (fltF a b) = none := by simp only [fltF, List.lookup, e1, e2]
      rw [l]
      show RelO none (if _ then _ else _)
      rw [if_neg hp, if_neg hc]
      trivial
section
variable {X : Cx} {C fI : Addr}
/-- Fault(e, f) -/
def tMkFault (C : Addr) (ta : TA) : St → Hp → XK → Prop := fun σ H Q => ta σ H fun vs H1 => ∃ v u, vs = [v, u] ∧ ∀ d, H1 d = none → Q (.ref C) (some d) (upd H1 d (.xd (fltF v u)))
theorem pmk_fault {a b : Expr} {ta : TA} {p pos : Pos} {k : Nat} (T : PySem.FltX.FltTxt X.K X.mg C fI) (hr : Room k X.A) (ha : PA X [a, b] ta) (hg : Gl X "Fault" := by rfl)
    (he : starEach (a :: [b]) X.env = (false, eval a X.env) :: starEach [b] X.env := by rfl) (hpl : (backTo pos (starEach [b] X.env)).any (·.1) = false := by rfl) :
    PMk X (.Call (.Name "Fault" p) [a, b] [] pos) (tMkFault C ta) := by
  intro pins s σ H Q I h
  refine wpAny_Call_Name_kw (ld_glob I hg T.gC ?_)
  refine PySem.W.callWith_K (h₀ := X.base) I.ok.mod.kin T.kC (thn (ha.run pos pins s σ H _ I h) fun us s1 hh => ?_) he hpl
  obtain ⟨vs, H1, I1, r1, v, u, ev, q1⟩ := hh
  subst ev
  refine ⟨I1.kIn, ?_⟩
  cases r1 with
  | cons rv rn =>
    rename_i v' us'
    cases rn with
    | cons ru rn =>
      rename_i u' us''
      cases rn
      show wpAny _ _ (call (.ref C) [v', u']) _ _ _
      have hlim := I1.nolimit
      obtain ⟨hp, g, dr, tk, os⟩ := s1
      refine wpAny_call (PySem.FltX.flt_made T I1.kIn hlim (by have := hr.dp; omega) fun h' tk' e d M => ?_)
      show MkP X pins σ Q (.ref e) ⟨h', g, dr, tk', os⟩
      obtain ⟨oe, fv, hoe, hc, hd, hdat, h1⟩ := M.obj
      have hns := M.ns
      obtain ⟨G', g1, g2⟩ := restrict h' fun b => decide (b ≠ e)
      have gk : ∀ b, b ≠ e → G'.get? b = h'.get? b := fun b hb => g1 b (decide_eq_true hb)
      have ge : G'.get? e = none := g2 e (by simp)
      have old : ∀ b o, hp.get? b = some o → G'.get? b = some o := fun b o q => (gk b (Nat.ne_of_lt (Nat.lt_of_lt_of_le (Heap.lt_size q) M.new))).trans (M.keep b o q)
      have ob : ObjOk X.prog X.w (upd H1 d (.xd (fltF v u))) G' d (.xd (fltF v u)) :=
        ⟨_, hns.at (fun o q => (gk d M.dne).trans q), fun f => relO_flt rv ru f⟩
      have J : Inv X pins σ (upd H1 d (.xd (fltF v u))) ⟨G', g, dr, tk', os⟩ := I1.laid (t' := tk') old M.dbig ob
      refine ⟨e, oe, fv, ⟨G', g, dr, tk', os⟩, _, .ref C, some d, rfl, J, fun b o q => ?_, ge, hoe, ⟨hc, hd⟩, hdat, h1, ?_, rfl, I1.bare, raises_own T.exC T.tyC, q1 d (I1.hok.fresh M.dbig)⟩
      · by_cases hb : b = e
        · have q' : G'.get? b = some o := q
          rw [hb, ge] at q'; cases q'
        · exact (gk b hb).symm.trans q
      · rw [upd_ne (Ne.symm M.dne)]
        exact I1.hok.fresh M.new
/-- raise Fault(e, f) -/
def tRaiseFault (C : Addr) (W : WX) (ta : TA) : TS := fun _ σ H => tMkFault C ta σ H fun cls d H' => W cls d σ H'
theorem ps_raiseFault {a b : Expr} {ta : TA} {W : WX} {p pos pos2 : Pos} {k : Nat} (hc : X.calm = true) (T : PySem.FltX.FltTxt X.K X.mg C fI) (hr : Room k X.A) (tk : Takes X W) (ha : PA X [a, b] ta) (hg : Gl X "Fault" := by rfl)
    (he : starEach (a :: [b]) X.env = (false, eval a X.env) :: starEach [b] X.env := by rfl) (hpl : (backTo pos (starEach [b] X.env)).any (·.1) = false := by rfl) :
    PS X (.Raise (some (.Call (.Name "Fault" p) [a, b] [] pos)) none pos2) (tRaiseFault C W ta) := ps_raise hc tk (pmk_fault T hr ha hg he hpl)
end
theorem FltTxt_xf {K : PySem.W.Frag} {mg : Str → Option Value} {C fI : Addr} (T : PySem.FltX.FltTxt K mg C fI) : XfC K C := ⟨T.ga, T.gg, T.exC, T.hdC⟩
end L2

namespace Dr
open PySem PySem.Spec PyProof.Rows L2
open Vapcma (Form Axiom)
/-! ## held.py -/
def heldF (n f r g : Addr) : List (Str × V) := [("numbers", .ref n), ("formulas", .ref f), ("rows", .ref r), ("goals", .ref g)]
theorem held_numbers (n f r g : Addr) : (heldF n f r g).lookup ("numbers" : Str) = some (.ref n) := lk_here
theorem held_formulas (n f r g : Addr) : (heldF n f r g).lookup ("formulas" : Str) = some (.ref f) := (lk_past (by decide +kernel)).trans lk_here
theorem held_rows (n f r g : Addr) : (heldF n f r g).lookup ("rows" : Str) = some (.ref r) := (lk_past (by decide +kernel)).trans ((lk_past (by decide +kernel)).trans lk_here)
theorem held_goals (n f r g : Addr) : (heldF n f r g).lookup ("goals" : Str) = some (.ref g) := (lk_past (by decide +kernel)).trans ((lk_past (by decide +kernel)).trans ((lk_past (by decide +kernel)).trans lk_here))
theorem held_none (n f r g : Addr) {m : Str} (h1 : (m == ("numbers" : Str)) = false) (h2 : (m == ("formulas" : Str)) = false) (h3 : (m == ("rows" : Str)) = false) (h4 : (m == ("goals" : Str)) = false) : (heldF n f r g).lookup m = none :=
  (lk_past h1).trans ((lk_past h2).trans ((lk_past h3).trans ((lk_past h4).trans rfl)))
theorem held_init (n f r g : Addr) : putF "goals" (.ref g) (putF "rows" (.ref r) (putF "formulas" (.ref f) (putF "numbers" (.ref n) []))) = heldF n f r g := by
  have e1 : putF ("numbers" : Str) (V.ref n) [] = [(("numbers" : Str), V.ref n)] := rfl
  have e2 : putF ("formulas" : Str) (V.ref f) [(("numbers" : Str), V.ref n)] = [(("numbers" : Str), V.ref n), (("formulas" : Str), V.ref f)] := (put_past (by decide +kernel)).trans rfl
  have e3 : putF ("rows" : Str) (V.ref r) [(("numbers" : Str), V.ref n), (("formulas" : Str), V.ref f)] = [(("numbers" : Str), V.ref n), (("formulas" : Str), V.ref f), (("rows" : Str), V.ref r)] := (put_past (by decide +kernel)).trans (congrArg _ ((put_past (by decide +kernel)).trans rfl))
  rw [e1, e2, e3]
  exact (put_past (by decide +kernel)).trans (congrArg _ ((put_past (by decide +kernel)).trans (congrArg _ ((put_past (by decide +kernel)).trans rfl))))
structure HAd where
  a : Addr
  dx : Addr
  na : Addr
  fa : Addr
  ra : Addr
  ga : Addr
  /-- what stood there before it -/
  B : Addr → Prop
/-- formulas, or None where there is none -/
inductive OptsIs (H : Hp) : List (Option Form) → List V → Prop
  | nil : OptsIs H [] []
  | cons {o : Option Form} {v : V} {os : List (Option Form)} {vs : List V} (h : OptIs H v o) (r : OptsIs H os vs) : OptsIs H (o :: os) (v :: vs)
theorem OptIs.mono {H H' : Hp} {v : V} {o : Option Form} (h : OptIs H v o) (e : ∀ b f, v = .ref b → H b = some (.lst (encV f)) → H' b = some (.lst (encV f))) : OptIs H' v o := by
  cases o with
  | none => exact h
  | some f =>
    obtain ⟨a, h1, h2⟩ := h
    exact ⟨a, h1, e a f h1 h2⟩
theorem OptIs.same {H H' : Hp} {v : V} {o : Option Form} (h : OptIs H v o) (e : Same H H') : OptIs H' v o := h.mono fun b f _ z => e _ _ z
theorem OptsIs.mono {H H' : Hp} {os : List (Option Form)} {vs : List V} (h : OptsIs H os vs) : (∀ b f, V.ref b ∈ vs → H b = some (.lst (encV f)) → H' b = some (.lst (encV f))) → OptsIs H' os vs := by
  induction h with
  | nil => exact fun _ => .nil
  | cons h _ ih => exact fun e => .cons (h.mono fun b f hb z => e b f (by rw [hb]; exact List.mem_cons_self) z) (ih fun b f hb z => e b f (List.mem_cons_of_mem _ hb) z)
theorem OptsIs.length {H : Hp} {os : List (Option Form)} {vs : List V} (h : OptsIs H os vs) : vs.length = os.length := by
  induction h with
  | nil => rfl
  | cons h _ ih => simp [ih]
theorem OptsIs.snoc {H : Hp} {os : List (Option Form)} {vs : List V} (h : OptsIs H os vs) {o : Option Form} {v : V} (hq : OptIs H v o) : OptsIs H (os ++ [o]) (vs ++ [v]) := by
  induction h with
  | nil => exact .cons hq .nil
  | cons h _ ih => exact .cons h ih
theorem OptsIs.get {H : Hp} {os : List (Option Form)} {vs : List V} (h : OptsIs H os vs) : ∀ {i : Nat} {o : Option Form}, os[i]? = some o → ∃ v, vs[i]? = some v ∧ OptIs H v o := by
  induction h with
  | nil => intro i p e; simp at e
  | @cons o v os vs h _ ih =>
    intro i p' e
    cases i with
    | zero =>
      simp only [List.getElem?_cons_zero, Option.some.injEq] at e
      subst e
      exact ⟨v, rfl, h⟩
    | succ i =>
      simp only [List.getElem?_cons_succ] at e
      obtain ⟨q', h1, h2⟩ := ih e
      exact ⟨q', h1, h2⟩
/-- names with their numbers -/
def nameV (n : VapcmBase.Bytes) : V := .str (SX.S (nb n))
def nameK (n : VapcmBase.Bytes) : Key := .inr (SX.S (nb n))
def numsFrom : Nat → List VapcmBase.Bytes → List (Key × V)
  | _, [] => []
  | i, n :: r => (nameK n, iv i) :: numsFrom (i + 1) r
theorem numsFrom_length : ∀ (ns : List VapcmBase.Bytes) (i : Nat), (numsFrom i ns).length = ns.length
  | [], _ => rfl
  | n :: r, i => by simp [numsFrom, numsFrom_length r]
theorem numsFrom_snoc : ∀ (ns : List VapcmBase.Bytes) (i : Nat) (n : VapcmBase.Bytes), numsFrom i (ns ++ [n]) = numsFrom i ns ++ [(nameK n, iv (i + ns.length))]
  | [], i, n => rfl
  | m :: r, i, n => by
    simp only [List.cons_append, numsFrom, List.length_cons]
    rw [numsFrom_snoc r (i + 1) n, show i + 1 + r.length = i + (r.length + 1) from by omega]
theorem SX_S_inj {a b : List Nat} (h : SX.S a = SX.S b) : a = b := by
  exact SX.S_inj h
theorem nameK_inj {a b : VapcmBase.Bytes} (h : nameK a = nameK b) : a = b := nb_inj (SX_S_inj (Sum.inr.inj h))
theorem numsFrom_new : ∀ {ns : List VapcmBase.Bytes} {i : Nat} {n : VapcmBase.Bytes}, n ∉ ns → valV (numsFrom i ns) (nameK n) = none
  | [], _, _, _ => rfl
  | m :: r, i, n, h => by
    simp only [List.mem_cons, not_or] at h
    rw [numsFrom, valV_neg (fun z => h.1 (nameK_inj z).symm)]
    exact numsFrom_new h.2
theorem numsFrom_find : ∀ {ns : List VapcmBase.Bytes} {i : Nat} {n : VapcmBase.Bytes}, valV (numsFrom i ns) (nameK n) = (ns.findIdx? fun y => y == n).map fun k => iv (i + k)
  | [], _, _ => rfl
  | m :: r, i, n => by
    rw [numsFrom, List.findIdx?_cons]
    by_cases e : m = n
    · subst e
      rw [valV_pos rfl]
      simp
    · have e2 : (m == n) = false := by rw [beq_eq_false_iff_ne]; exact e
      rw [valV_neg (fun z => e (nameK_inj z)), numsFrom_find, e2]
      simp only [Bool.false_eq_true, if_false, Option.map_map]
      congr 1
      funext k
      simp only [Function.comp]
      congr 1
      omega
theorem numsFrom_names : ∀ (ns : List VapcmBase.Bytes) (i : Nat), ((numsFrom i ns).map fun kv => kV kv.1) = ns.map nameV
  | [], _ => rfl
  | n :: r, i => by
    simp only [numsFrom, List.map_cons, numsFrom_names r]
    rfl
structure HeldAt (H : Hp) (L : Lay) (h : HAd) (as_ : List Axiom) (rs : List Vapcma.Row) (gs : List Form) : Prop where
  obj : H h.a = some (.ins L.Held h.dx (heldF h.na h.fa h.ra h.ga))
  num : H h.na = some (.dK (numsFrom 0 (namesOf as_ rs)))
  fs : ∃ vs, H h.fa = some (.lst vs) ∧ OptsIs H (formsOf as_ rs) vs ∧ ∀ b, V.ref b ∈ vs → b ≠ h.fa ∧ b ≠ h.ra ∧ b ≠ h.ga
  rws : ∃ vs, H h.ra = some (.lst vs) ∧ PartsIs H (rs.map fun r => [r.i, r.j]) vs
  gls : ∃ vs, H h.ga = some (.lst vs) ∧ OptsIs H (gs.map some) vs ∧ ∀ b, V.ref b ∈ vs → b ≠ h.fa ∧ b ≠ h.ra ∧ b ≠ h.ga
  d1 : h.fa ≠ h.ra
  d2 : h.fa ≠ h.ga
  d3 : h.ra ≠ h.ga
  off : ∀ b, h.B b → b ≠ h.fa ∧ b ≠ h.ra ∧ b ≠ h.ga ∧ (∀ vs, H h.fa = some (.lst vs) → V.ref b ∉ vs) ∧ ∀ us, H h.ga = some (.lst us) → V.ref b ∉ us
def HeldS (h : HAd) (b : Addr) : Prop := b = h.na ∨ b = h.fa ∨ b = h.ra ∨ b = h.ga
theorem HeldAt.mono {H H' : Hp} {L : Lay} {h : HAd} {as_ : List Axiom} {rs : List Vapcma.Row} {gs : List Form} (k : HeldAt H L h as_ rs gs) (e : ∀ b o, H b = some o → (∃ xs, o = .tup xs) ∨ (∃ xs, o = .lst xs) ∨ b = h.a ∨ b = h.na → H' b = some o) : HeldAt H' L h as_ rs gs := by
  obtain ⟨vs, f1, f2, f3⟩ := k.fs
  obtain ⟨ws, r1, r2⟩ := k.rws
  obtain ⟨us, g1, g2, g3⟩ := k.gls
  exact ⟨e _ _ k.obj (.inr (.inr (.inl rfl))), e _ _ k.num (.inr (.inr (.inr rfl))), ⟨vs, e _ _ f1 (.inr (.inl ⟨_, rfl⟩)), f2.mono fun b f _ z => e _ _ z (.inr (.inl ⟨_, rfl⟩)), f3⟩,
    ⟨ws, e _ _ r1 (.inr (.inl ⟨_, rfl⟩)), r2.same fun b xs z => e _ _ z (.inl ⟨xs, rfl⟩)⟩, ⟨us, e _ _ g1 (.inr (.inl ⟨_, rfl⟩)), g2.mono fun b f _ z => e _ _ z (.inr (.inl ⟨_, rfl⟩)), g3⟩, k.d1, k.d2, k.d3, fun b hb => by
      obtain ⟨o1, o2, o3, o4, o5⟩ := k.off b hb
      refine ⟨o1, o2, o3, fun vs' h' => ?_, fun us' h' => ?_⟩
      · rw [e _ _ f1 (.inr (.inl ⟨_, rfl⟩))] at h'; cases h'; exact o4 vs f1
      · rw [e _ _ g1 (.inr (.inl ⟨_, rfl⟩))] at h'; cases h'; exact o5 us g1⟩
theorem HeldAt.same {H H' : Hp} {L : Lay} {h : HAd} {as_ : List Axiom} {rs : List Vapcma.Row} {gs : List Form} (k : HeldAt H L h as_ rs gs) (e : Same H H') : HeldAt H' L h as_ rs gs := k.mono fun b o z _ => e b o z
/-- an object elsewhere is changed -/
theorem HeldAt.fr {H H' : Hp} {L : Lay} {h : HAd} {as_ : List Axiom} {rs : List Vapcma.Row} {gs : List Form} (k : HeldAt H L h as_ rs gs) {c C dx : Addr} {fs : List (Str × V)} (hc : H c = some (.ins C dx fs)) (ne : c ≠ h.a) (e : Fr (fun b => b = c) H H') : HeldAt H' L h as_ rs gs := by
  refine k.mono fun b o z q => e b o z ?_
  rintro rfl
  rw [hc] at z
  cases z
  rcases q with ⟨_, q⟩ | ⟨_, q⟩ | q | q
  · cases q
  · cases q
  · exact ne q
  · rw [q, k.num] at hc; cases hc
section
variable {P : Program} {w : World} {K : PySem.W.Frag} {mg : Str → Option Value} {base : Heap} {L : Lay}
def sp_Held_init (L : Lay) : Sp := fun vs H Q _ => ∃ (p dx : Addr) (B : Addr → Prop), vs = [.ref p] ∧ H p = some (.ins L.Held dx []) ∧ (∀ b, B b → H b ≠ none) ∧
  ∀ (H' : Hp) (h : HAd), h.a = p → h.dx = dx → h.B = B → HeldAt H' L h [] [] [] → (∀ b o, H b = some o → b ≠ p → H' b = some o) → (∀ b, HeldS h b → H b = none) → Q .non H'
abbrev s_Held_init : Stmt := inClass (top 19) 0
theorem sc_Held_init : FnScope ["self"] ["self"] (defScope s_Held_init) := ⟨rfl, rfl, rfl, by decide +kernel, rfl, by decide +kernel, by decide +kernel⟩
theorem ok_Held_init {f : Addr} {fd : FuncData} (F : Fun K "__init__" "Held.__init__" s_Held_init f fd) (T : Txt K mg L) : FnOk P w K mg base CX0 1 f fd ["self"] (sp_Held_init L) := by
  refine F.ok sc_Held_init (fun vs H Q E h => ?_) (fun cdv A outer s H vs Q E hr h => ?_)
  · obtain ⟨p, dx, B, rfl, _⟩ := h
    rfl
  · refine ⟨_, pss_cons (ps_fld (pv 0) pe_dnewK rfl)
      (pss_cons (ps_fld (pv 0) (pe_lst pa_nil) rfl)
      (pss_cons (ps_fld (pv 0) (pe_lst pa_nil) rfl)
      (pss_one (ps_fld (pv 0) (pe_lst pa_nil) rfl)))), ?_⟩
    obtain ⟨p, dx, B, rfl, hp, hB, k⟩ := h
    refine fun q1 n1 => ⟨_, rfl, p, L.Held, dx, _, rfl, by rw [upd_ne (ne_of_none hp n1)]; exact hp, T.cHeld, T.nHeld_numbers, (by decide), ?_⟩
    have e1 : p ≠ q1 := ne_of_none hp n1
    refine ⟨(by decide), fun q2 n2 => ⟨_, rfl, p, L.Held, dx, _, rfl, by rw [upd_ne (ne_of_none upd_same n2)]; exact upd_same, T.cHeld, T.nHeld_formulas, (by show 1 < 1000; decide), ?_⟩⟩
    have e2 : p ≠ q2 := ne_of_none upd_same n2
    have e3 : q1 ≠ q2 := ne_of_none (by rw [upd_ne (Ne.symm e1)]; exact upd_same) n2
    refine ⟨(by decide), fun q3 n3 => ⟨_, rfl, p, L.Held, dx, _, rfl, by rw [upd_ne (ne_of_none upd_same n3)]; exact upd_same, T.cHeld, T.nHeld_rows, (by show 2 < 1000; decide), ?_⟩⟩
    have e4 : p ≠ q3 := ne_of_none upd_same n3
    have e5 : q2 ≠ q3 := ne_of_none (by rw [upd_ne (Ne.symm e2)]; exact upd_same) n3
    have e6 : q1 ≠ q3 := ne_of_none (by rw [upd_ne (Ne.symm e1), upd_ne e3, upd_ne (Ne.symm e1)]; exact upd_same) n3
    refine ⟨(by decide), fun q4 n4 => ⟨_, rfl, p, L.Held, dx, _, rfl, by rw [upd_ne (ne_of_none upd_same n4)]; exact upd_same, T.cHeld, T.nHeld_goals, (by show 3 < 1000; decide), ?_⟩⟩
    have g1 : p ≠ q4 := ne_of_none upd_same n4
    have g2 : q3 ≠ q4 := ne_of_none (by rw [upd_ne (Ne.symm e4)]; exact upd_same) n4
    have g3 : q2 ≠ q4 := ne_of_none (by rw [upd_ne (Ne.symm e2), upd_ne e5, upd_ne (Ne.symm e2)]; exact upd_same) n4
    have g4 : q1 ≠ q4 := ne_of_none (by rw [upd_ne (Ne.symm e1), upd_ne e6, upd_ne (Ne.symm e1), upd_ne e3, upd_ne (Ne.symm e1)]; exact upd_same) n4
    have f2 : H q2 = none := by
      rw [upd_ne (Ne.symm e2), upd_ne (Ne.symm e3)] at n2; exact n2
    have f3 : H q3 = none := by
      rw [upd_ne (Ne.symm e4), upd_ne (Ne.symm e5), upd_ne (Ne.symm e4), upd_ne (Ne.symm e6)] at n3; exact n3
    have f4 : H q4 = none := by
      rw [upd_ne (Ne.symm g1), upd_ne (Ne.symm g2), upd_ne (Ne.symm g1), upd_ne (Ne.symm g3), upd_ne (Ne.symm g1), upd_ne (Ne.symm g4)] at n4; exact n4
    have l2 : upd (upd (upd (upd (upd (upd (upd (upd H q1 (.dK [])) p (.ins L.Held dx (putF "numbers" (.ref q1) []))) q2 (.lst [])) p (.ins L.Held dx (putF "formulas" (.ref q2) (putF "numbers" (.ref q1) [])))) q3 (.lst [])) p (.ins L.Held dx (putF "rows" (.ref q3) (putF "formulas" (.ref q2) (putF "numbers" (.ref q1) []))))) q4 (.lst [])) p (.ins L.Held dx (putF "goals" (.ref q4) (putF "rows" (.ref q3) (putF "formulas" (.ref q2) (putF "numbers" (.ref q1) []))))) q2 = some (.lst []) := by
      rw [upd_ne (Ne.symm e2), upd_ne g3, upd_ne (Ne.symm e2), upd_ne e5, upd_ne (Ne.symm e2), upd_same]
    refine k _ ⟨p, dx, q1, q2, q3, q4, B⟩ rfl rfl rfl ⟨?_, ?_, ⟨[], l2, .nil, fun b hb => absurd hb (by simp)⟩, ⟨[], ?_, .nil⟩, ⟨[], ?_, .nil, fun b hb => absurd hb (by simp)⟩, e5, g3, g2, fun b hb => ⟨fun e => hB b hb (e ▸ f2), fun e => hB b hb (e ▸ f3), fun e => hB b hb (e ▸ f4), fun vs hv => ?_, fun us hu => ?_⟩⟩ (fun b o z nb => ?_) ?_
    · rw [upd_same, held_init]
    · show upd _ p _ q1 = _
      rw [upd_ne (Ne.symm e1), upd_ne g4, upd_ne (Ne.symm e1), upd_ne e6, upd_ne (Ne.symm e1), upd_ne e3, upd_ne (Ne.symm e1), upd_same]
      rfl
    · show upd _ p _ q3 = _
      rw [upd_ne (Ne.symm e4), upd_ne g2, upd_ne (Ne.symm e4), upd_same]
    · show upd _ p _ q4 = _
      rw [upd_ne (Ne.symm g1), upd_same]
    · have z := l2.symm.trans hv
      cases z
      simp
    · have hu : upd _ p _ q4 = some (.lst us) := hu
      rw [upd_ne (Ne.symm g1), upd_same] at hu
      cases hu
      simp
    · rw [upd_ne nb, upd_ne (ne_of_none z f4), upd_ne nb, upd_ne (ne_of_none z f3), upd_ne nb, upd_ne (ne_of_none z f2), upd_ne nb, upd_ne (ne_of_none z n1)]
      exact z
    · rintro b (rfl | rfl | rfl | rfl)
      · exact n1
      · exact f2
      · exact f3
      · exact f4
def sp_axiom_count (L : Lay) : Sp := fun vs H Q _ => ∃ (h : HAd) (as_ : List Axiom) (rs : List Vapcma.Row) (gs : List Form), vs = [.ref h.a] ∧ HeldAt H L h as_ rs gs ∧ Q (iv as_.length) H
abbrev s_Held_axiom_count : Stmt := inClass (top 19) 1
theorem sc_Held_axiom_count : FnScope ["self"] ["self"] (defScope s_Held_axiom_count) := ⟨rfl, rfl, rfl, by decide +kernel, rfl, by decide +kernel, by decide +kernel⟩
theorem ok_Held_axiom_count {f : Addr} {fd : FuncData} (F : Fun K "axiom_count" "Held.axiom_count" s_Held_axiom_count f fd) (T : Txt K mg L) : FnOk P w K mg base CX0 1 f fd ["self"] (sp_axiom_count L) := by
  refine F.ok sc_Held_axiom_count (fun vs H Q E h => ?_) (fun cdv A outer s H vs Q E hr h => ?_)
  · obtain ⟨h, as_, rs, gs, rfl, _⟩ := h
    rfl
  · have n_len := T.n_len
    refine ⟨_, pss_one (ps_ret (pe_op op_sub (pe_callB call_len_seq (by rfl) n_len PySem.boot_len (pa_cons (pe_fld (pv 0) rfl) pa_nil)) (pe_callB call_len_seq (by rfl) n_len PySem.boot_len (pa_cons (pe_fld (pv 0) rfl) pa_nil)))), ?_⟩
    obtain ⟨h, as_, rs, gs, rfl, hH, k⟩ := h
    obtain ⟨vs, f1, f2, f3⟩ := hH.fs
    obtain ⟨ws, r1, r2⟩ := hH.rws
    refine ⟨_, rfl, h.a, _, _, _, _, rfl, hH.obj, T.cHeld, T.nHeld_formulas, held_formulas _ _ _ _, h.fa, _, rfl, .inl (SqL.of f1), ?_⟩
    refine ⟨_, rfl, h.a, _, _, _, _, rfl, hH.obj, T.cHeld, T.nHeld_rows, held_rows _ _ _ _, h.ra, _, rfl, .inl (SqL.of r1), ?_⟩
    refine ⟨_, _, rfl, rfl, ?_⟩
    have e1 : vs.length = as_.length + rs.length := by rw [f2.length, formsOf_length]
    have e2 : ws.length = rs.length := by rw [r2.length, List.length_map]
    have e3 : ((vs.length : Int) - (ws.length : Int)) = (as_.length : Int) := by omega
    show Q (.int ((vs.length : Int) - (ws.length : Int))) H
    rw [e3]
    exact k
def sp_add_axiom (L : Lay) : Sp := fun vs H Q _ => ∃ (h : HAd) (as_ : List Axiom) (gs : List Form) (n : VapcmBase.Bytes) (g : Form) (q : Addr), vs = [.ref h.a, nameV n, .ref q] ∧ HeldAt H L h as_ [] gs ∧ H q = some (.lst (encV g)) ∧ ¬ HeldS h q ∧ ¬ h.B q ∧
  as_.length ≤ 100 ∧ n ∉ namesOf as_ [] ∧ Vapcma.normal g = g ∧ ∀ H', HeldAt H' L h (as_ ++ [⟨n, g⟩]) [] gs → Fr (HeldS h) H H' → Q .non H'
abbrev s_Held_add_axiom : Stmt := inClass (top 19) 2
theorem sc_Held_add_axiom : FnScope ["self", "name", "formula"] ["self", "name", "formula"] (defScope s_Held_add_axiom) := ⟨rfl, rfl, rfl, by decide +kernel, rfl, by decide +kernel, by decide +kernel⟩
theorem ok_Held_add_axiom {f : Addr} {fd : FuncData} (F : Fun K "add_axiom" "Held.add_axiom" s_Held_add_axiom f fd) (T : Txt K mg L) : FnOk P w K mg base CX0 1 f fd ["self", "name", "formula"] (sp_add_axiom L) := by
  refine F.ok sc_Held_add_axiom (fun vs H Q E h => ?_) (fun cdv A outer s H vs Q E hr h => ?_)
  · obtain ⟨h, as_, gs, n, g, q, rfl, _⟩ := h
    rfl
  · have n_len := T.n_len
    have hu := hu_of hr
    refine ⟨_, pss_cons (ps_dput hu (pe_fld (pv 0) rfl) (pv 1) (pe_callB call_len_seq (by rfl) n_len PySem.boot_len (pa_cons (pe_fld (pv 0) rfl) pa_nil)) rfl)
      (pss_one (ps_expr (pe_bm PySem.F.plainAttrs_list PySem.F.slot_list_append PySem.F.type_list_append mt_append (pe_fld (pv 0) rfl) (pa_cons (pv 2) pa_nil)))), ?_⟩
    obtain ⟨h, as_, gs, n, g, q, rfl, hH, hq, nq, nB, hz, hnew, hnf, k⟩ := h
    obtain ⟨vs, f1, f2, f3⟩ := hH.fs
    obtain ⟨ws, r1, r2⟩ := hH.rws
    obtain ⟨us, g1, g2, g3⟩ := hH.gls
    have e1 : vs.length = as_.length := by rw [f2.length, formsOf_length]; simp
    refine ⟨_, rfl, h.a, _, _, _, _, rfl, hH.obj, T.cHeld, T.nHeld_formulas, held_formulas _ _ _ _, h.fa, _, rfl, .inl (SqL.of f1), ?_⟩
    refine ⟨_, rfl, h.a, _, _, _, _, rfl, hH.obj, T.cHeld, T.nHeld_numbers, held_numbers _ _ _ _, _, rfl, h.na, _, rfl, DPut.k (k := nameK n) hH.num ?_, ?_⟩
    · rw [numsFrom_length, namesOf_length]; exact fitslt_of (by simp; omega)
    rw [putK_new _ (numsFrom_new hnew)]
    have na1 : h.a ≠ h.na := ne_of hH.obj hH.num (by intro z; cases z)
    have na2 : h.a ≠ h.fa := ne_of hH.obj f1 (by intro z; cases z)
    have nf : h.fa ≠ h.na := ne_of f1 hH.num (by intro z; cases z)
    have nr : h.ra ≠ h.na := ne_of r1 hH.num (by intro z; cases z)
    have ng : h.ga ≠ h.na := ne_of g1 hH.num (by intro z; cases z)
    have enum : numsFrom 0 (namesOf as_ []) ++ [(nameK n, iv vs.length)] = numsFrom 0 (namesOf (as_ ++ [⟨n, g⟩]) []) := by
      have : namesOf (as_ ++ [⟨n, g⟩]) [] = namesOf as_ [] ++ [n] := by simp [namesOf]
      rw [this, numsFrom_snoc, namesOf_length, e1]
      simp
    rw [enum]
    refine ⟨_, rfl, h.a, _, _, _, _, rfl, by rw [upd_ne na1]; exact hH.obj, T.cHeld, T.nHeld_formulas, held_formulas _ _ _ _, ?_⟩
    have f1' : upd H h.na (.dK (numsFrom 0 (namesOf (as_ ++ [⟨n, g⟩]) []))) h.fa = some (.lst vs) := by rw [upd_ne nf]; exact f1
    refine ⟨.inl ⟨rfl, _, SqL.of f1'⟩, _, rfl, h.fa, _, _, rfl, rfl, f1', (by rw [e1]; exact fitslt_of (by omega)), ?_⟩
    have keep : ∀ b o, H b = some o → b ≠ h.na → b ≠ h.fa → upd (upd H h.na (.dK (numsFrom 0 (namesOf (as_ ++ [⟨n, g⟩]) [])))) h.fa (.lst (vs ++ [.ref q])) b = some o := fun b o z n1 n2 => by
      rw [upd_ne n2, upd_ne n1]; exact z
    have lk : ∀ b f, H b = some (.lst (encV f)) → b ≠ h.fa → upd (upd H h.na (.dK (numsFrom 0 (namesOf (as_ ++ [⟨n, g⟩]) [])))) h.fa (.lst (vs ++ [.ref q])) b = some (.lst (encV f)) := fun b f z n2 =>
      keep b _ z (ne_of z hH.num (by intro z; cases z)) n2
    have eforms : formsOf (as_ ++ [⟨n, g⟩]) [] = formsOf as_ [] ++ [some g] := by simp [formsOf, hnf]
    refine k _ ⟨?_, ?_, ⟨vs ++ [.ref q], upd_same, ?_, ?_⟩, ⟨ws, keep _ _ r1 nr (Ne.symm hH.d1), r2.same fun b xs z => ?_⟩, ⟨us, keep _ _ g1 ng (Ne.symm hH.d2), g2.mono fun b f hb z => lk b f z (g3 b hb).1, g3⟩, hH.d1, hH.d2, hH.d3, fun b hb => by
        obtain ⟨o1, o2, o3, o4, o5⟩ := hH.off b hb
        refine ⟨o1, o2, o3, fun vs' h' => ?_, fun us' h' => ?_⟩
        · rw [upd_same] at h'
          cases h'
          intro hm
          rcases List.mem_append.mp hm with hm | hm
          · exact o4 vs f1 hm
          · simp only [List.mem_singleton, V.ref.injEq] at hm
            exact nB (hm ▸ hb)
        · rw [keep _ _ g1 ng (Ne.symm hH.d2)] at h'
          cases h'
          exact o5 us g1⟩ (fun b o z nbs => ?_)
    · exact keep _ _ hH.obj na1 na2
    · rw [upd_ne (Ne.symm nf), upd_same]
    · rw [eforms]
      exact (f2.mono fun b f hb z => lk b f z (f3 b hb).1).snoc ⟨q, rfl, lk q g hq (fun e => nq (.inr (.inl e)))⟩
    · intro b hb
      rcases List.mem_append.mp hb with hb | hb
      · exact f3 b hb
      · simp only [List.mem_singleton, V.ref.injEq] at hb
        subst hb
        exact ⟨fun e => nq (.inr (.inl e)), fun e => nq (.inr (.inr (.inl e))), fun e => nq (.inr (.inr (.inr e)))⟩
    · exact keep _ _ z (ne_of z hH.num (by intro z; cases z)) (ne_of z f1 (by intro z; cases z))
    · exact keep b o z (fun e => nbs (.inl e)) (fun e => nbs (.inr (.inl e)))
end
end Dr

namespace Dr
open PySem PySem.Spec PyProof.Rows L2
open Vapcma (Form Axiom)
section
variable {P : Program} {w : World} {K : PySem.W.Frag} {mg : Str → Option Value} {base : Heap} {L : Lay}
def sp_add_row (L : Lay) : Sp := fun vs H Q _ => ∃ (h : HAd) (as_ : List Axiom) (rs : List Vapcma.Row) (gs : List Form) (n : VapcmBase.Bytes) (i j : Nat), vs = [.ref h.a, nameV n, iv i, iv j] ∧ HeldAt H L h as_ rs gs ∧
  i < as_.length + rs.length ∧ j < as_.length + rs.length ∧ as_.length ≤ 100 ∧ rs.length ≤ 100 ∧ n ∉ namesOf as_ rs ∧ (∀ f, some f ∈ formsOf as_ rs → Vapcma.size f ≤ 400) ∧ (∀ b, h.B b → H b ≠ none) ∧
  ∀ H', HeldAt H' L h as_ (rs ++ [⟨n, i, j⟩]) gs → Fr (HeldS h) H H' → Q .non H'
abbrev s_Held_add_row : Stmt := inClass (top 19) 3
theorem sc_Held_add_row : FnScope ["self", "name", "first", "second"] ["self", "name", "first", "second"] (defScope s_Held_add_row) := ⟨rfl, rfl, rfl, by decide +kernel, rfl, by decide +kernel, by decide +kernel⟩
theorem namesOf_row (as_ : List Axiom) (rs : List Vapcma.Row) (r : Vapcma.Row) : namesOf as_ (rs ++ [r]) = namesOf as_ rs ++ [r.name] := by simp [namesOf]
theorem ok_Held_add_row {f : Addr} {fd : FuncData} (F : Fun K "add_row" "Held.add_row" s_Held_add_row f fd) (T : Txt K mg L) (h_detached : HasDef P w K mg base CX0 3 "detached" ["first", "second"] sp_detached) :
    FnOk P w K mg base CX0 4 f fd ["self", "name", "first", "second"] (sp_add_row L) := by
  refine F.ok sc_Held_add_row (fun vs H Q E h => ?_) (fun cdv A outer s H vs Q E hr h => ?_)
  · obtain ⟨h, as_, rs, gs, n, i, j, rfl, _⟩ := h
    rfl
  · have n_len := T.n_len
    have hu := hu_of hr
    obtain ⟨f_detached, fd_detached, m_detached, k_detached, b_detached, G_detached⟩ := h_detached
    refine ⟨_, pss_cons (ps_dput hu (pe_fld (pv 0) rfl) (pv 1) (pe_callB call_len_seq (by rfl) n_len PySem.boot_len (pa_cons (pe_fld (pv 0) rfl) pa_nil)) rfl)
      (pss_cons (ps_expr (pe_bm PySem.F.plainAttrs_list PySem.F.slot_list_append PySem.F.type_list_append mt_append (pe_fld (pv 0) rfl) (pa_cons (pe_call G_detached (hr.mono (by decide)) rfl m_detached k_detached b_detached .nil pass0 (pa_cons (pe_ix ix_list (pe_fld (pv 0) rfl) (pv 2) (fun _ _ => rfl)) (pa_cons (pe_ix ix_list (pe_fld (pv 0) rfl) (pv 3) (fun _ _ => rfl)) pa_nil))) pa_nil)))
      (pss_one (ps_expr (pe_bm PySem.F.plainAttrs_list PySem.F.slot_list_append PySem.F.type_list_append mt_append (pe_fld (pv 0) rfl) (pa_cons (pe_tup (pa_cons (pv 2) (pa_cons (pv 3) pa_nil))) pa_nil))))), ?_⟩
    obtain ⟨h, as_, rs, gs, n, i, j, rfl, hH, hi, hj, hza, hzr, hnew, hsm, hB, k⟩ := h
    obtain ⟨vs, f1, f2, f3⟩ := hH.fs
    obtain ⟨ws, r1, r2⟩ := hH.rws
    obtain ⟨us, g1, g2, g3⟩ := hH.gls
    have e1 : vs.length = as_.length + rs.length := by rw [f2.length, formsOf_length]
    have e2 : ws.length = rs.length := by rw [r2.length, List.length_map]
    refine ⟨_, rfl, h.a, _, _, _, _, rfl, hH.obj, T.cHeld, T.nHeld_formulas, held_formulas _ _ _ _, h.fa, _, rfl, .inl (SqL.of f1), ?_⟩
    refine ⟨_, rfl, h.a, _, _, _, _, rfl, hH.obj, T.cHeld, T.nHeld_numbers, held_numbers _ _ _ _, _, rfl, h.na, _, rfl, DPut.k (k := nameK n) hH.num ?_, ?_⟩
    · rw [numsFrom_length, namesOf_length]; exact fitslt_of (by omega)
    rw [putK_new _ (numsFrom_new hnew)]
    have na1 : h.a ≠ h.na := ne_of hH.obj hH.num (by intro z; cases z)
    have na2 : h.a ≠ h.fa := ne_of hH.obj f1 (by intro z; cases z)
    have na3 : h.a ≠ h.ra := ne_of hH.obj r1 (by intro z; cases z)
    have nf : h.fa ≠ h.na := ne_of f1 hH.num (by intro z; cases z)
    have nr : h.ra ≠ h.na := ne_of r1 hH.num (by intro z; cases z)
    have ng : h.ga ≠ h.na := ne_of g1 hH.num (by intro z; cases z)
    have enum : numsFrom 0 (namesOf as_ rs) ++ [(nameK n, iv vs.length)] = numsFrom 0 (namesOf as_ (rs ++ [⟨n, i, j⟩])) := by
      rw [namesOf_row, numsFrom_snoc, namesOf_length, e1]
      simp
    rw [enum]
    generalize eH1 : upd H h.na (.dK (numsFrom 0 (namesOf as_ (rs ++ [⟨n, i, j⟩])))) = H1
    have k1 : ∀ b o, H b = some o → b ≠ h.na → H1 b = some o := fun b o z ne => by rw [← eH1, upd_ne ne]; exact z
    have l1 : ∀ b xs, H b = some (.lst xs) → H1 b = some (.lst xs) := fun b xs z => k1 b _ z (ne_of z hH.num (by intro z; cases z))
    have o1 := k1 _ _ hH.obj na1
    have p1 := l1 _ _ f1
    refine ⟨_, rfl, h.a, _, _, _, _, rfl, o1, T.cHeld, T.nHeld_formulas, held_formulas _ _ _ _, .inl ⟨rfl, _, SqL.of p1⟩, ?_⟩
    obtain ⟨oi, hoi⟩ : ∃ o, (formsOf as_ rs)[i]? = some o := ⟨_, List.getElem?_eq_getElem (by rw [formsOf_length]; exact hi)⟩
    obtain ⟨oj, hoj⟩ : ∃ o, (formsOf as_ rs)[j]? = some o := ⟨_, List.getElem?_eq_getElem (by rw [formsOf_length]; exact hj)⟩
    obtain ⟨vi, hvi, hIi⟩ := f2.get hoi
    obtain ⟨vj, hvj, hIj⟩ := f2.get hoj
    refine ⟨_, rfl, h.a, _, _, _, _, rfl, o1, T.cHeld, T.nHeld_formulas, held_formulas _ _ _ _, _, rfl, h.fa, _, _, _, rfl, rfl, SqL.of p1, atI_nat hvi, ?_⟩
    refine ⟨_, rfl, h.a, _, _, _, _, rfl, o1, T.cHeld, T.nHeld_formulas, held_formulas _ _ _ _, _, rfl, h.fa, _, _, _, rfl, rfl, SqL.of p1, atI_nat hvj, ?_⟩
    have esz : ∀ {q : Nat} {o : Option Form}, (formsOf as_ rs)[q]? = some o → ∀ f, o = some f → Vapcma.size f ≤ 400 := fun {q o} z f e => hsm f (by rw [← e]; exact List.mem_of_getElem? z)
    have erow : formsOf as_ (rs ++ [⟨n, i, j⟩]) = formsOf as_ rs ++ [detachO oi oj] := by
      rw [formsOf_row, Vapcma.addRow, hoi, hoj]
      rfl
    -- what follows once the formula is there
    have fin : ∀ (H2 : Hp) (v : V), Same H1 H2 → OptIs H2 v (detachO oi oj) → (∀ b, v = .ref b → H1 b = none) →
        rAppend (.ref h.fa) [v] H2 fun _ H3 => tDrop (tBM K "list" rAppend (tFld K (tVar 0) "rows") (tCons (tTup (tCons (tVar 2) (tCons (tVar 3) tNil))) tNil)) { nx := fun _ H' => Q .non H', rt := Q } (L2.start ["self", "name", "first", "second"] [V.ref h.a, nameV n, iv i, iv j]) H3 := by
      intro H2 v s2 ho nv
      have p2 := s2 _ _ p1
      refine ⟨h.fa, _, _, rfl, rfl, p2, (by rw [e1]; exact fitslt_of (by omega)), ?_⟩
      have k2 : ∀ b o, H b = some o → b ≠ h.na → b ≠ h.fa → upd H2 h.fa (.lst (vs ++ [v])) b = some o := fun b o z n1 n2 => by
        rw [upd_ne n2]; exact s2 _ _ (k1 b o z n1)
      have o2 := k2 _ _ hH.obj na1 na2
      have r2' := k2 _ _ r1 nr (Ne.symm hH.d1)
      refine ⟨_, rfl, h.a, _, _, _, _, rfl, o2, T.cHeld, T.nHeld_rows, held_rows _ _ _ _, .inl ⟨rfl, _, SqL.of r2'⟩, _, rfl, _, rfl, (by show 2 ≤ sizeLine; decide), fun t nt => ?_⟩
      have nrt : h.ra ≠ t := ne_of_none r2' nt
      have r3 : upd (upd H2 h.fa (.lst (vs ++ [v]))) t (.tup [iv i, iv j]) h.ra = some (.lst ws) := by rw [upd_ne nrt]; exact r2'
      refine ⟨h.ra, _, _, rfl, rfl, r3, (by rw [e2]; exact fitslt_of (by omega)), ?_⟩
      have k3 : ∀ b o, H b = some o → b ≠ h.na → b ≠ h.fa → b ≠ h.ra → upd (upd (upd H2 h.fa (.lst (vs ++ [v]))) t (.tup [iv i, iv j])) h.ra (.lst (ws ++ [.ref t])) b = some o := fun b o z n1 n2 n3 => by
        rw [upd_ne n3, upd_ne (ne_of_none (k2 b o z n1 n2) nt)]; exact k2 b o z n1 n2
      have nft : h.fa ≠ t := ne_of_none upd_same nt
      have f4 : upd (upd (upd H2 h.fa (.lst (vs ++ [v]))) t (.tup [iv i, iv j])) h.ra (.lst (ws ++ [.ref t])) h.fa = some (.lst (vs ++ [v])) := by
        rw [upd_ne hH.d1, upd_ne nft, upd_same]
      have lk : ∀ b f, H b = some (.lst (encV f)) → b ≠ h.fa → b ≠ h.ra → upd (upd (upd H2 h.fa (.lst (vs ++ [v]))) t (.tup [iv i, iv j])) h.ra (.lst (ws ++ [.ref t])) b = some (.lst (encV f)) := fun b f z n2 n3 =>
        k3 b _ z (ne_of z hH.num (by intro z; cases z)) n2 n3
      have nv2 : ∀ b, v = .ref b → b ≠ h.fa ∧ b ≠ h.ra ∧ b ≠ h.ga := fun b e => by
        have nb := nv b e
        refine ⟨fun z => ?_, fun z => ?_, fun z => ?_⟩
        · rw [z, p1] at nb; cases nb
        · rw [z, l1 _ _ r1] at nb; cases nb
        · rw [z, l1 _ _ g1] at nb; cases nb
      have ho4 : OptIs (upd (upd (upd H2 h.fa (.lst (vs ++ [v]))) t (.tup [iv i, iv j])) h.ra (.lst (ws ++ [.ref t]))) v (detachO oi oj) := ho.mono fun b f e z => by
        obtain ⟨z1, z2, _⟩ := nv2 b e
        have zz : upd H2 h.fa (.lst (vs ++ [v])) b = some (.lst (encV f)) := by rw [upd_ne z1]; exact z
        rw [upd_ne z2, upd_ne (ne_of_none zz nt)]
        exact zz
      have ht : upd (upd (upd H2 h.fa (.lst (vs ++ [v]))) t (.tup [iv i, iv j])) h.ra (.lst (ws ++ [.ref t])) t = some (.tup ([i, j].map iv)) := by
        rw [upd_ne (Ne.symm nrt), upd_same]; rfl
      refine k _ ⟨?_, ?_, ⟨vs ++ [v], f4, ?_, ?_⟩, ⟨ws ++ [.ref t], upd_same, ?_⟩, ⟨us, k3 _ _ g1 ng (Ne.symm hH.d2) (Ne.symm hH.d3), g2.mono fun b f hb z => lk b f z (g3 b hb).1 (g3 b hb).2.1, g3⟩, hH.d1, hH.d2, hH.d3, fun b hb => by
        obtain ⟨o1, o2, o3, o4, o5⟩ := hH.off b hb
        refine ⟨o1, o2, o3, fun vs' h' => ?_, fun us' h' => ?_⟩
        · rw [f4] at h'
          cases h'
          intro hm
          rcases List.mem_append.mp hm with hm | hm
          · exact o4 vs f1 hm
          · have hm : V.ref b = v := by simpa using hm
            have nb := nv b hm.symm
            cases e : H b with
            | none => exact hB b hb e
            | some o =>
              by_cases en : b = h.na
              · rw [en, ← eH1, upd_same] at nb; cases nb
              · rw [k1 _ _ e en] at nb; cases nb
        · rw [k3 _ _ g1 ng (Ne.symm hH.d2) (Ne.symm hH.d3)] at h'
          cases h'
          exact o5 us g1⟩ (fun b o z nbs => ?_)
      · exact k3 _ _ hH.obj na1 na2 na3
      · have z1 : H1 h.na = some (.dK (numsFrom 0 (namesOf as_ (rs ++ [⟨n, i, j⟩])))) := by rw [← eH1, upd_same]
        have z2 : upd H2 h.fa (.lst (vs ++ [v])) h.na = some (.dK (numsFrom 0 (namesOf as_ (rs ++ [⟨n, i, j⟩])))) := by rw [upd_ne (Ne.symm nf)]; exact s2 _ _ z1
        rw [upd_ne (Ne.symm nr), upd_ne (ne_of_none z2 nt)]
        exact z2
      · rw [erow]
        exact (f2.mono fun b f hb z => lk b f z (f3 b hb).1 (f3 b hb).2.1).snoc ho4
      · intro b hb
        rcases List.mem_append.mp hb with hb | hb
        · exact f3 b hb
        · simp only [List.mem_singleton] at hb
          exact nv2 b hb.symm
      · rw [List.map_append]
        exact (r2.same fun b xs z => k3 b _ z (ne_of z hH.num (by intro z; cases z)) (ne_of z f1 (by intro z; cases z)) (ne_of z r1 (by intro z; cases z))).snoc ht
      · exact k3 b o z (fun e => nbs (.inl e)) (fun e => nbs (.inr (.inl e))) (fun e => nbs (.inr (.inr (.inl e))))
    refine ⟨vi, vj, oi, oj, rfl, hIi.mono fun b f _ z => l1 _ _ z, hIj.mono fun b f _ z => l1 _ _ z, esz hoi, esz hoj, fun e H2 s2 => ?_, fun r e H2 p s2 np hp => ?_⟩
    · exact fin H2 .non s2 (by rw [e]; rfl) (fun b e => by cases e)
    · exact fin H2 (.ref p) s2 (by rw [e]; exact ⟨p, rfl, hp⟩) (fun b e => by cases e; exact np)
end
end Dr

namespace Dr
open PySem PySem.Spec PyProof.Rows L2
open Vapcma (Form Axiom)
/-- rows that hang on what stands before them -/
def RowsOk (m : Nat) (rs : List Vapcma.Row) : Prop := ∀ (k : Nat) (r : Vapcma.Row), rs[k]? = some r → r.i < m + k ∧ r.j < m + k
def sizesOf (as_ : List Axiom) (rs : List Vapcma.Row) : List (Nat × Nat) := rs.foldl Vapcma.addSize (as_.map fun _ => (0, 0))
theorem sizesOf_snoc (as_ : List Axiom) (rs : List Vapcma.Row) (r : Vapcma.Row) : sizesOf as_ (rs ++ [r]) = Vapcma.addSize (sizesOf as_ rs) r := by simp [sizesOf]
theorem addSize_length (l : List (Nat × Nat)) (r : Vapcma.Row) : (Vapcma.addSize l r).length = l.length + 1 := by simp [Vapcma.addSize]
theorem sizesOf_length (as_ : List Axiom) (rs : List Vapcma.Row) : (sizesOf as_ rs).length = as_.length + rs.length := by
  have : ∀ (rs : List Vapcma.Row) (l : List (Nat × Nat)), (rs.foldl Vapcma.addSize l).length = l.length + rs.length := by
    intro rs
    induction rs with
    | nil => intro l; simp
    | cons r rs ih => intro l; simp only [List.foldl_cons, ih, addSize_length, List.length_cons]; omega
  rw [sizesOf, this, List.length_map]
def fstV (l : List (Nat × Nat)) : List V := l.map fun e => iv e.1
def sndV (l : List (Nat × Nat)) : List V := l.map fun e => iv e.2
theorem at_getD {l : List (Nat × Nat)} {i : Nat} (h : i < l.length) : l[i]? = some (l.getD i (0, 0)) := by
  rw [List.getD_eq_getElem?_getD, List.getElem?_eq_getElem h]
  rfl
theorem fst_at {l : List (Nat × Nat)} {i : Nat} (h : i < l.length) : atI (fstV l) (i : Int) = some (iv (l.getD i (0, 0)).1) := atI_nat (by rw [fstV, List.getElem?_map, at_getD h]; rfl)
theorem snd_at {l : List (Nat × Nat)} {i : Nat} (h : i < l.length) : atI (sndV l) (i : Int) = some (iv (l.getD i (0, 0)).2) := atI_nat (by rw [sndV, List.getElem?_map, at_getD h]; rfl)
section
variable {P : Program} {w : World} {K : PySem.W.Frag} {mg : Str → Option Value} {base : Heap} {L : Lay}
def sp_tree_sizes (L : Lay) : Sp := fun vs H Q _ => ∃ (h : HAd) (as_ : List Axiom) (rs : List Vapcma.Row) (gs : List Form) (k : Nat), vs = [.ref h.a, iv k] ∧ HeldAt H L h as_ rs gs ∧ RowsOk as_.length rs ∧ as_.length ≤ 100 ∧ rs.length ≤ 100 ∧ k < as_.length + rs.length ∧
  ∀ H' p, Same H H' → H p = none → H' p = some (.lst [iv ((sizesOf as_ rs).getD k (0, 0)).1, iv ((sizesOf as_ rs).getD k (0, 0)).2]) → Q (.ref p) H'
abbrev s_tree_sizes : Stmt := top 21
theorem sc_tree_sizes : FnScope ["held", "item", "steps", "depths", "first", "second"] ["held", "item"] (defScope s_tree_sizes) := ⟨rfl, rfl, rfl, by decide +kernel, rfl, by decide +kernel, by decide +kernel⟩
theorem rep0 (n : Nat) : (List.replicate ((n : Int)).toNat [V.int 0]).flatten = List.replicate n (V.int 0) := by
  rw [Int.toNat_natCast]
  induction n with
  | zero => rfl
  | succ n ih => rw [List.replicate_succ, List.flatten_cons, ih]; rfl
theorem rep_fst (as_ : List Axiom) : List.replicate as_.length (V.int 0) = fstV (sizesOf as_ []) := by
  simp only [fstV, sizesOf, List.foldl_nil, List.map_map]
  induction as_ with
  | nil => rfl
  | cons a r ih => rw [List.length_cons, List.replicate_succ, List.map_cons, ih]; rfl
theorem rep_snd (as_ : List Axiom) : List.replicate as_.length (V.int 0) = sndV (sizesOf as_ []) := by
  simp only [sndV, sizesOf, List.foldl_nil, List.map_map]
  induction as_ with
  | nil => rfl
  | cons a r ih => rw [List.length_cons, List.replicate_succ, List.map_cons, ih]; rfl
theorem ok_tree_sizes {f : Addr} {fd : FuncData} (F : Fun K "tree_sizes" "tree_sizes" s_tree_sizes f fd) (T : Txt K mg L) (h_axiom_count : HasMeth P w K mg base CX0 1 L.Held "axiom_count" ["self"] (sp_axiom_count L)) :
    FnOk P w K mg base CX0 2 f fd ["held", "item"] (sp_tree_sizes L) := by
  refine F.ok sc_tree_sizes (fun vs H Q E h => ?_) (fun cdv A outer s H vs Q E hr h => ?_)
  · obtain ⟨h, as_, rs, gs, k, rfl, _⟩ := h
    rfl
  · have n_max := T.n_max
    obtain ⟨f_ac, fd_ac, M_Held_axiom_count, b_Held_axiom_count, G_Held_axiom_count⟩ := h_axiom_count
    refine ⟨_, pss_cons (ps_set (i := 2) sc_tree_sizes.nd rfl (Or.inl rfl) (pe_op op_rep (pe_lst (pa_cons pe_int pa_nil)) (pe_meth0 (pv 0) T.cHeld M_Held_axiom_count G_Held_axiom_count (hr.mono (by decide)) b_Held_axiom_count .nil pass0)))
      (pss_cons (ps_set (i := 3) sc_tree_sizes.nd rfl (Or.inl rfl) (pe_op op_rep (pe_lst (pa_cons pe_int pa_nil)) (pe_meth0 (pv 0) T.cHeld M_Held_axiom_count G_Held_axiom_count (hr.mono (by decide)) b_Held_axiom_count .nil pass0)))
      (pss_cons (ps_for PassesOwn.never rfl (pi_list (pe_fld (pv 0) rfl)) (pg_tup rfl (pgs_cons (pg_name (i := 4) sc_tree_sizes.nd rfl (Or.inl rfl)) (pgs_cons (pg_name (i := 5) sc_tree_sizes.nd rfl (Or.inl rfl)) pgs_nil)))
        (pss_cons (ps_expr (pe_bm PySem.F.plainAttrs_list PySem.F.slot_list_append PySem.F.type_list_append mt_append (pv 2) (pa_cons (pe_op op_add (pe_op op_add (pe_ix ix_list (pv 2) (pv 4) (fun _ _ => rfl)) (pe_ix ix_list (pv 2) (pv 5) (fun _ _ => rfl))) pe_int) pa_nil)))
          (pss_one (ps_expr (pe_bm PySem.F.plainAttrs_list PySem.F.slot_list_append PySem.F.type_list_append mt_append (pv 3) (pa_cons (pe_op op_add (pe_callB (call_max2 rfl) (by rfl) n_max (by decide +kernel) (pa_cons (pe_ix ix_list (pv 3) (pv 4) (fun _ _ => rfl)) (pa_cons (pe_ix ix_list (pv 3) (pv 5) (fun _ _ => rfl)) pa_nil))) pe_int) pa_nil))))))
      (pss_one (ps_ret (pe_lst (pa_cons (pe_ix ix_list (pv 2) (pv 1) (fun _ _ => rfl)) (pa_cons (pe_ix ix_list (pv 3) (pv 1) (fun _ _ => rfl)) pa_nil))))))), ?_⟩
    obtain ⟨h, as_, rs, gs, k, rfl, hH, hR, hza, hzr, hk, q⟩ := h
    have lkA : (heldF h.na h.fa h.ra h.ga).lookup ("axiom_count" : Str) = none := held_none _ _ _ _ (by decide +kernel) (by decide +kernel) (by decide +kernel) (by decide +kernel)
    refine ⟨(by show 1 ≤ sizeLine; decide), fun l1 n1 => ?_⟩
    have hH1 := hH.same (same_new (o := .lst [V.int 0]) n1)
    refine ⟨_, rfl, h.a, _, _, rfl, hH1.obj, lkA, h, as_, rs, gs, rfl, hH1, l1, _, _, rfl, rfl, upd_same, by omega, by omega, ?_, fun p np => ?_⟩
    · show 1 * _ ≤ _
      rw [Int.toNat_natCast, sizeLine_eq]; omega
    rw [rep0]
    have hH2 := hH1.same (same_new (o := .lst (List.replicate as_.length (V.int 0))) np)
    refine ⟨(by show 1 ≤ sizeLine; decide), fun l2 n2 => ?_⟩
    have hH3 := hH2.same (same_new (o := .lst [V.int 0]) n2)
    refine ⟨_, rfl, h.a, _, _, rfl, hH3.obj, lkA, h, as_, rs, gs, rfl, hH3, l2, _, _, rfl, rfl, upd_same, by omega, by omega, ?_, fun p2 np2 => ?_⟩
    · show 1 * _ ≤ _
      rw [Int.toNat_natCast, sizeLine_eq]; omega
    rw [rep0]
    have hH4 := hH3.same (same_new (o := .lst (List.replicate as_.length (V.int 0))) np2)
    have s1 : Same H (upd H l1 (.lst [V.int 0])) := same_new n1
    have s2 := s1.trans (same_new (o := .lst (List.replicate as_.length (V.int 0))) np)
    have s3 := s2.trans (same_new (o := .lst [V.int 0]) n2)
    have s4 := s3.trans (same_new (o := .lst (List.replicate as_.length (V.int 0))) np2)
    have fp : H p = none := s1.free np
    have fp2 : H p2 = none := s3.free np2
    generalize eH3 : upd (upd (upd H l1 (.lst [V.int 0])) p (.lst (List.replicate as_.length (V.int 0)))) l2 (.lst [V.int 0]) = H3 at *
    have hp3 : H3 p = some (.lst (List.replicate as_.length (V.int 0))) := by
      rw [← eH3, upd_ne (ne_of_none upd_same n2), upd_same]
    have npp : p ≠ p2 := ne_of_none hp3 np2
    obtain ⟨ws, r1, r2⟩ := hH4.rws
    have ew : ws.length = rs.length := by rw [r2.length, List.length_map]
    have rH : H h.ra = some (.lst ws) := by
      obtain ⟨ws', r1', _⟩ := hH.rws
      have := s4 _ _ r1'
      rw [r1] at this
      cases this
      exact r1'
    refine ⟨_, rfl, h.a, _, _, _, _, rfl, hH4.obj, T.cHeld, T.nHeld_rows, held_rows _ _ _ _, h.ra, rfl, ⟨_, SqL.of r1⟩, for_list (K := K) (a := h.ra) (xs := ws)
      (fun i σ H' => ∃ v4 v5 : Option V, σ = [some (.ref h.a), some (iv k), some (.ref p), some (.ref p2), v4, v5] ∧ Same H H' ∧ H' p = some (.lst (fstV (sizesOf as_ (rs.take i)))) ∧ H' p2 = some (.lst (sndV (sizesOf as_ (rs.take i)))))
      ⟨none, none, rfl, s4, by rw [upd_ne npp, hp3, rep_fst]; rfl, by rw [upd_same, rep_snd]; rfl⟩ (fun i σ H' _ ⟨_, _, _, s5, _⟩ => SqL.of (s5 _ _ rH)) ?_ ?_⟩
    · rintro i x σ H' hi ⟨v4, v5, rfl, s5, hp, hp'⟩
      have hir : i < rs.length := by
        have := (List.getElem?_eq_some_iff.mp hi).1
        omega
      obtain ⟨r, hr1⟩ : ∃ r, rs[i]? = some r := ⟨_, List.getElem?_eq_getElem hir⟩
      obtain ⟨b1, b2⟩ := hR i r hr1
      obtain ⟨q1, hq1, hq2⟩ := (hH.same s5).rws.elim fun us hu => by
        obtain ⟨u1, u2⟩ := hu
        rw [s5 _ _ rH] at u1
        cases u1
        exact u2.get (i := i) (p := [r.i, r.j]) (by rw [List.getElem?_map, hr1]; rfl)
      rw [hi] at hq1
      cases hq1
      refine ⟨q1, _, rfl, SqT.of hq2, rfl, _, _, rfl, _, _, rfl, rfl, ?_⟩
      have el : (sizesOf as_ (rs.take i)).length = as_.length + i := by rw [sizesOf_length, List.length_take]; omega
      have bi : r.i < (sizesOf as_ (rs.take i)).length := by omega
      have bj : r.j < (sizesOf as_ (rs.take i)).length := by omega
      refine ⟨_, rfl, .inl ⟨rfl, _, SqL.of hp⟩, _, rfl, _, rfl, p, _, _, _, rfl, rfl, SqL.of hp, fst_at bi, _, rfl, _, rfl, p, _, _, _, rfl, rfl, SqL.of hp, fst_at bj, _, _, rfl, rfl, _, _, rfl, rfl, p, _, _, rfl, rfl, hp, (by rw [fstV, List.length_map, el]; exact fitslt_of (by omega)), ?_⟩
      have hp'' : upd H' p (.lst (fstV (sizesOf as_ (rs.take i)) ++ [V.int (((sizesOf as_ (rs.take i)).getD r.i (0, 0)).1 + ((sizesOf as_ (rs.take i)).getD r.j (0, 0)).1 + 1)])) p2 = some (.lst (sndV (sizesOf as_ (rs.take i)))) := by rw [upd_ne (Ne.symm npp)]; exact hp'
      refine ⟨_, rfl, .inl ⟨rfl, _, SqL.of hp''⟩, _, rfl, _, rfl, p2, _, _, _, rfl, rfl, SqL.of hp'', snd_at bi, _, rfl, _, rfl, p2, _, _, _, rfl, rfl, SqL.of hp'', snd_at bj, _, _, rfl, _, _, rfl, rfl, p2, _, _, rfl, rfl, hp'', (by rw [sndV, List.length_map, el]; exact fitslt_of (by omega)), ?_⟩
      have es : sizesOf as_ (rs.take (i + 1)) = sizesOf as_ (rs.take i) ++ [(((sizesOf as_ (rs.take i)).getD r.i (0, 0)).1 + ((sizesOf as_ (rs.take i)).getD r.j (0, 0)).1 + 1, Nat.max ((sizesOf as_ (rs.take i)).getD r.i (0, 0)).2 ((sizesOf as_ (rs.take i)).getD r.j (0, 0)).2 + 1)] := by
        rw [take_succ' hr1, sizesOf_snoc, Vapcma.addSize]
      refine ⟨_, _, rfl, fun b o z => ?_, ?_, ?_⟩
      · rw [upd_ne (ne_of_none z fp2), upd_ne (ne_of_none z fp)]; exact s5 b o z
      · rw [upd_ne npp, upd_same, es]
        simp [fstV, iv]
      · rw [upd_same, es]
        simp only [sndV, List.map_append, List.map_cons, List.map_nil, iv]
        congr 3
        have : ∀ a b : Nat, ((if (b : Int) > (a : Int) then (b : Int) else (a : Int)) + 1) = ((Nat.max a b + 1 : Nat) : Int) := fun a b => by
          rw [show Nat.max a b = max a b from rfl]
          by_cases c : (b : Int) > (a : Int)
          · rw [if_pos c, Nat.max_eq_right (by omega)]; omega
          · rw [if_neg c, Nat.max_eq_left (by omega)]; omega
        exact congrArg (fun x => [V.int x]) (this _ _)
    · rintro σ H' ⟨v4, v5, rfl, s5, hp, hp'⟩
      have et : rs.take ws.length = rs := by rw [ew]; exact List.take_length
      rw [et] at hp hp'
      have el : k < (sizesOf as_ rs).length := by rw [sizesOf_length]; exact hk
      refine ⟨_, rfl, _, rfl, p, _, _, _, rfl, rfl, SqL.of hp, fst_at el, _, rfl, _, rfl, p2, _, _, _, rfl, rfl, SqL.of hp', snd_at el, (by show 2 ≤ sizeLine; decide), fun z nz => ?_⟩
      exact q _ z (s5.trans (same_new nz)) (s5.free nz) upd_same
end
end Dr

namespace Dr
open PySem PySem.Spec PyProof.Rows L2
open Vapcma (Form Axiom showForm nameAt line)
open VapcmBase (word Bytes)
/-! ### the one form -/
theorem vars_len : ∀ f : Form, (Vapcma.vars f).length ≤ Vapcma.size f
  | .var v => by simp [Vapcma.vars, Vapcma.size]
  | .imp a b => by
    have := vars_len a
    have := vars_len b
    simp only [Vapcma.vars, Vapcma.size, List.length_append]; omega
  | .neg a => by
    have := vars_len a
    simp only [Vapcma.vars, Vapcma.size]; omega
theorem vars_small {f : Form} (h : Vapcma.normal f = f) : ∀ v ∈ Vapcma.vars f, v < Vapcma.size f := by
  intro v hv
  rw [← h, normal_eq, vars_rename] at hv
  obtain ⟨u, hu, rfl⟩ := List.mem_map.mp hv
  have h1 := idx_lt (ks := keysOf [] (Vapcma.vars f)) (a := u) (mem_keysOf.mpr (.inr hu))
  have h2 := keysOf_len (Vapcma.vars f) []
  have h3 := vars_len f
  simp at h2
  omega
theorem nb_word (s : String) (l : List Nat) (h : (s.toList.map fun c => c.toNat % 256) = l) : nb (word s) = l := by
  rw [← h]
  unfold nb word
  rw [List.map_map]
  rfl
def axN (a : Axiom) : List Nat := nb (line (word "axiom " ++ (a.name ++ (word " : " ++ (showForm a.f ++ word " ;")))))
def rowN (ns : List Bytes) (r : Vapcma.Row) : List Nat := nb (line (word "row " ++ (r.name ++ (word " : " ++ ((ns[r.i]?).getD [] ++ (word ", " ++ ((ns[r.j]?).getD [] ++ word " ;")))))))
def goalN (g : Form) : List Nat := nb (line (word "goal " ++ (showForm g ++ word " ;")))
theorem nb_ax : nb (word "axiom ") = [97, 120, 105, 111, 109, 32] := by decide +kernel
theorem nb_row : nb (word "row ") = [114, 111, 119, 32] := by decide +kernel
theorem nb_goal : nb (word "goal ") = [103, 111, 97, 108, 32] := by decide +kernel
theorem nb_col : nb (word " : ") = [32, 58, 32] := by decide +kernel
theorem nb_com : nb (word ", ") = [44, 32] := by decide +kernel
theorem nb_sem : nb (word " ;") = [32, 59] := by decide +kernel
theorem axN_eq (a : Axiom) : axN a = ((([97, 120, 105, 111, 109, 32] ++ nb a.name) ++ [32, 58, 32]) ++ showN a.f) ++ [32, 59, 10] := by
  unfold axN line
  simp only [nb_append, nb_ax, nb_col, nb_sem, List.append_assoc]
  rfl
theorem rowN_eq (ns : List Bytes) (r : Vapcma.Row) : rowN ns r = ((((([114, 111, 119, 32] ++ nb r.name) ++ [32, 58, 32]) ++ nb ((ns[r.i]?).getD [])) ++ [44, 32]) ++ nb ((ns[r.j]?).getD [])) ++ [32, 59, 10] := by
  unfold rowN line
  simp only [nb_append, nb_row, nb_col, nb_com, nb_sem, List.append_assoc]
  rfl
theorem goalN_eq (g : Form) : goalN g = ([103, 111, 97, 108, 32] ++ showN g) ++ [32, 59, 10] := by
  unfold goalN line
  simp only [nb_append, nb_goal, nb_sem, List.append_assoc]
  rfl
theorem nb_flatMap {α : Type} (f : α → Bytes) : ∀ l : List α, nb (l.flatMap f) = (l.map fun x => nb (f x)).flatten
  | [] => rfl
  | x :: l => by rw [List.flatMap_cons, nb_append, nb_flatMap f l]; rfl
def allN (as_ : List Axiom) (rs : List Vapcma.Row) (gs : List Form) : List (List Nat) := as_.map axN ++ (rs.map (rowN (namesOf as_ rs)) ++ gs.map goalN)
theorem shown_eq (as_ : List Axiom) (rs : List Vapcma.Row) (gs : List Form) : nb (Vapcma.shown ⟨as_, rs, gs⟩) = (allN as_ rs gs).flatten := by
  unfold Vapcma.shown allN
  rw [nb_append, nb_append, nb_flatMap, nb_flatMap, nb_flatMap, List.flatten_append, List.flatten_append]
  rfl
theorem joinL_nil : ∀ l : List (List Nat), TL.joinL [] l = l.flatten
  | [] => rfl
  | [p] => by simp [TL.joinL]
  | p :: q :: r => by
    show p ++ ([] ++ TL.joinL [] (q :: r)) = _
    rw [joinL_nil (q :: r)]
    rfl
theorem tjs_c {ts : List TE} {acc c : List Nat} {s : Str} {σ : L2.St} {H : Hp} {Q : Str → Hp → Prop} (e : s = SX.S c) (hz : acc.length + c.length ≤ 100000) (h : tJs ts (SX.S (acc ++ c)) σ H Q) : tJs (tC (.str s) :: ts) (SX.S acc) σ H Q := by
  subst e
  refine ⟨_, rfl, ?_, ?_⟩
  · rw [SX.S_cat, SX.S_len, List.length_append]; exact fits_of hz
  · rw [SX.S_cat]; exact h
theorem tjs_v {te : TE} {ts : List TE} {acc y : List Nat} {σ : L2.St} {H : Hp} {Q : Str → Hp → Prop} (hv : ∀ Q : VK, Q (.str (SX.S y)) H → te σ H Q) (hz : acc.length + y.length ≤ 100000) (h : tJs ts (SX.S (acc ++ y)) σ H Q) : tJs (tFmt te :: ts) (SX.S acc) σ H Q := by
  refine hv _ (.inl ⟨_, rfl, by rw [SX.S_len]; exact fits_of (by omega), ?_⟩)
  refine ⟨_, rfl, ?_, ?_⟩
  · rw [SX.S_cat, SX.S_len, List.length_append]; exact fits_of hz
  · rw [SX.S_cat]; exact h
def strV (l : List Nat) : V := .str (SX.S l)
theorem cut_take (xs : List V) (n : Nat) : cutV xs none (some (n : Int)) = xs.take n := by
  unfold cutV
  rw [HT.sIx_none, HT.sIx_nat, List.drop_zero, Nat.sub_zero, Nat.min_def]
  split
  · rfl
  · rw [List.take_length, List.take_of_length_le (by omega)]
theorem cut_drop (xs : List V) (n : Nat) : cutV xs (some (n : Int)) none = xs.drop n := by
  unfold cutV
  rw [HT.sIx_none, HT.sIx_nat, Nat.min_def]
  split
  · rw [List.take_of_length_le (by rw [List.length_drop]; exact Nat.le_refl _)]
  · rw [Nat.sub_self, List.take_zero, List.drop_of_length_le (by omega)]
/-- a loop over zip of two lists, the first no longer -/
theorem for_zipM {K : PySem.W.Frag} {a b : Addr} {xs ys : List V} {g : TG} {tb : TS} {D : Ends} {σ : L2.St} {H : Hp} (hl : xs.length ≤ ys.length) (Pv : Nat → L2.St → Hp → Prop) (h0 : Pv 0 σ H) (hq : ∀ i σ H, Pv i σ H → SqL K H a xs ∧ SqL K H b ys)
    (hs : ∀ (i : Nat) (x y : V) (T : Addr) (σ : L2.St) (H : Hp), xs[i]? = some x → ys[i]? = some y → Pv i σ H → H T = none → g (.ref T) σ (upd H T (.tup [x, y])) fun σ2 H2 => tb { D with nx := Pv (i + 1), ct := Pv (i + 1), bk := D.nx } σ2 H2) (hd : ∀ σ H, Pv xs.length σ H → D.nx σ H) :
    ∃ W : Nat → Nat → L2.St → Hp → Prop, (∃ m, W 0 m σ H) ∧ ∀ i m σ H, W i m σ H →
      ((Itz K a b).stop i H ∧ D.nx σ H) ∨ ((Itz K a b).go i H ∧ ∃ N : L2.St → Hp → Prop, (∀ σ' H', N σ' H' → ∃ m', m' < m ∧ W (i + 1) m' σ' H') ∧ ∀ v H', (Itz K a b).yld i H v H' → g v σ H' fun σ2 H2 => tb { D with nx := N, ct := N, bk := D.nx } σ2 H2) := by
  refine ⟨fun i m σ H => m = xs.length - i ∧ i ≤ xs.length ∧ Pv i σ H, ⟨xs.length, rfl, Nat.zero_le _, h0⟩, ?_⟩
  rintro i m σ H ⟨rfl, hi, p⟩
  obtain ⟨qx, qy⟩ := hq i σ H p
  by_cases hlt : i < xs.length
  · have hx : xs[i]? = some xs[i] := List.getElem?_eq_getElem hlt
    have hlt2 : i < ys.length := by omega
    have hy : ys[i]? = some ys[i] := List.getElem?_eq_getElem hlt2
    refine .inr ⟨⟨xs, ys, _, _, qx, qy, hx, hy⟩, Pv (i + 1), fun σ' H' p' => ⟨xs.length - (i + 1), by omega, rfl, hlt, p'⟩, fun v H' y => ?_⟩
    obtain ⟨T, x', y', rfl, hT, rfl, f1, f2⟩ := y
    exact hs i x' y' T σ H (f1 xs qx) (f2 ys qy) p hT
  · have e : i = xs.length := by omega
    subst e
    exact .inl ⟨⟨xs, ys, qx, qy, Or.inl (Nat.le_refl _)⟩, hd σ H p⟩
section
variable {P : Program} {w : World} {K : PySem.W.Frag} {mg : Str → Option Value} {base : Heap} {L : Lay}
def sp_one_form (L : Lay) : Sp := fun vs H Q _ => ∃ (h : HAd) (as_ : List Axiom) (rs : List Vapcma.Row) (gs : List Form), vs = [.ref h.a] ∧ HeldAt H L h as_ rs gs ∧ Right as_ rs gs ∧
  ∀ H', Same H H' → Q (.str (SX.S (nb (Vapcma.shown ⟨as_, rs, gs⟩)))) H'
abbrev s_one_form : Stmt := top 20
theorem sc_one_form : FnScope ["held", "names", "lines", "name", "formula", "shape", "pair", "first", "second", "goal"] ["held"] (defScope s_one_form) := ⟨rfl, rfl, rfl, by decide +kernel, rfl, by decide +kernel, by decide +kernel⟩
theorem ok_one_form {f : Addr} {fd : FuncData} (F : Fun K "one_form" "one_form" s_one_form f fd) (T : Txt K mg L) (h_axiom_count : HasMeth P w K mg base CX0 1 L.Held "axiom_count" ["self"] (sp_axiom_count L)) (h_written : HasDef P w K mg base CX0 2 "written" ["formula"] (sp_written K)) :
    FnOk P w K mg base CX0 3 f fd ["held"] (sp_one_form L) := by
  refine F.ok sc_one_form (fun vs H Q E h => ?_) (fun cdv A outer s H vs Q E hr h => ?_)
  · obtain ⟨h, as_, rs, gs, rfl, _⟩ := h
    rfl
  · have n_list := T.n_list
    have n_zip := T.n_zip
    obtain ⟨f_ac, fd_ac, M_Held_axiom_count, b_Held_axiom_count, G_Held_axiom_count⟩ := h_axiom_count
    obtain ⟨f_written, fd_written, m_written, k_written, b_written, G_written⟩ := h_written
    refine ⟨_, pss_cons (ps_set (i := 1) sc_one_form.nd rfl (Or.inl rfl) (pe_callTy (call_list_dK rfl) (by rfl) n_list (by decide +kernel) (pa_cons (pe_fld (pv 0) rfl) pa_nil)))
      (pss_cons (ps_set (i := 2) sc_one_form.nd rfl (Or.inl rfl) (pe_lst pa_nil))
      (pss_cons (ps_for PassesOwn.never rfl (pi_zip (by rfl) n_zip (pa_cons (pe_slice sl_list (pv 1) po_none (po_some (pe_meth0 (pv 0) T.cHeld M_Held_axiom_count G_Held_axiom_count (hr.mono (by decide)) b_Held_axiom_count .nil pass0))) (pa_cons (pe_fld (pv 0) rfl) pa_nil))) (pg_tup rfl (pgs_cons (pg_name (i := 3) sc_one_form.nd rfl (Or.inl rfl)) (pgs_cons (pg_name (i := 4) sc_one_form.nd rfl (Or.inl rfl)) pgs_nil)))
        (pss_cons (ps_set (i := 5) sc_one_form.nd rfl (Or.inl rfl) (pe_call G_written (hr.mono (by decide)) rfl m_written k_written b_written .nil pass0 (pa_cons (pv 4) pa_nil)))
          (pss_one (ps_expr (pe_bm PySem.F.plainAttrs_list PySem.F.slot_list_append PySem.F.type_list_append mt_append (pv 2) (pa_cons (pe_joined (.cons pe_str (.cons (pe_fmt (pv 3)) (.cons pe_str (.cons (pe_fmt (pv 5)) (.cons pe_str .nil)))))) pa_nil))))))
      (pss_cons (ps_for PassesOwn.never rfl (pi_zip (by rfl) n_zip (pa_cons (pe_slice sl_list (pv 1) (po_some (pe_meth0 (pv 0) T.cHeld M_Held_axiom_count G_Held_axiom_count (hr.mono (by decide)) b_Held_axiom_count .nil pass0)) po_none) (pa_cons (pe_fld (pv 0) rfl) pa_nil))) (pg_tup rfl (pgs_cons (pg_name (i := 3) sc_one_form.nd rfl (Or.inl rfl)) (pgs_cons (pg_name (i := 6) sc_one_form.nd rfl (Or.inl rfl)) pgs_nil)))
        (pss_cons (ps_set (i := 7) sc_one_form.nd rfl (Or.inl rfl) (pe_ix ix_list (pv 1) (pe_ix ix_tup (pv 6) pe_int (fun _ _ => rfl)) (fun _ _ => rfl)))
          (pss_cons (ps_set (i := 8) sc_one_form.nd rfl (Or.inl rfl) (pe_ix ix_list (pv 1) (pe_ix ix_tup (pv 6) pe_int (fun _ _ => rfl)) (fun _ _ => rfl)))
          (pss_one (ps_expr (pe_bm PySem.F.plainAttrs_list PySem.F.slot_list_append PySem.F.type_list_append mt_append (pv 2) (pa_cons (pe_joined (.cons pe_str (.cons (pe_fmt (pv 3)) (.cons pe_str (.cons (pe_fmt (pv 7)) (.cons pe_str (.cons (pe_fmt (pv 8)) (.cons pe_str .nil)))))))) pa_nil)))))))
      (pss_cons (ps_for PassesOwn.never rfl (pi_list (pe_fld (pv 0) rfl)) (pg_name (i := 9) sc_one_form.nd rfl (Or.inl rfl))
        (pss_cons (ps_set (i := 5) sc_one_form.nd rfl (Or.inl rfl) (pe_call G_written (hr.mono (by decide)) rfl m_written k_written b_written .nil pass0 (pa_cons (pv 9) pa_nil)))
          (pss_one (ps_expr (pe_bm PySem.F.plainAttrs_list PySem.F.slot_list_append PySem.F.type_list_append mt_append (pv 2) (pa_cons (pe_joined (.cons pe_str (.cons (pe_fmt (pv 5)) (.cons pe_str .nil)))) pa_nil))))))
      (pss_one (ps_ret (pe_join pe_str (pv 2)))))))), ?_⟩
    obtain ⟨h, as_, rs, gs, rfl, hH, hR, q⟩ := h
    have lkA : (heldF h.na h.fa h.ra h.ga).lookup ("axiom_count" : Str) = none := held_none _ _ _ _ (by decide +kernel) (by decide +kernel) (by decide +kernel) (by decide +kernel)
    have hza := hR.na
    have hzr := hR.nr
    have hzg := hR.ng
    obtain ⟨vs, f1, f2, f3⟩ := hH.fs
    obtain ⟨ws, r1, r2⟩ := hH.rws
    obtain ⟨us, g1, g2, g3⟩ := hH.gls
    have ev : vs.length = as_.length + rs.length := by rw [f2.length, formsOf_length]
    have ew : ws.length = rs.length := by rw [r2.length, List.length_map]
    have eu : us.length = gs.length := by rw [g2.length, List.length_map]
    refine ⟨_, rfl, h.a, _, _, _, _, rfl, hH.obj, T.cHeld, T.nHeld_numbers, held_numbers _ _ _ _, h.na, _, rfl, hH.num, fun p np => ?_⟩
    rw [numsFrom_names]
    refine ⟨(by decide), fun l nl => ?_⟩
    have npl : p ≠ l := ne_of_none upd_same nl
    generalize eH1 : upd (upd H p (.lst ((namesOf as_ rs).map nameV))) l (.lst []) = H1
    have s1 : Same H H1 := by rw [← eH1]; exact (same_new np).trans (same_new nl)
    have hp1 : H1 p = some (.lst ((namesOf as_ rs).map nameV)) := by rw [← eH1, upd_ne npl, upd_same]
    have hl1 : H1 l = some (.lst []) := by rw [← eH1, upd_same]
    have fl : H l = none := (same_new np).free nl
    have hH1 := hH.same s1
    refine ⟨_, rfl, _, rfl, h.a, _, _, rfl, hH1.obj, lkA, h, as_, rs, gs, rfl, hH1, _, rfl, p, _, rfl, SqL.of hp1, fun p1 np1 => ?_⟩
    rw [cut_take]
    have npp1 : p ≠ p1 := ne_of_none hp1 np1
    have nlp1 : l ≠ p1 := ne_of_none hl1 np1
    generalize eH2 : upd H1 p1 (.lst (((namesOf as_ rs).map nameV).take as_.length)) = H2
    have s2 : Same H H2 := by rw [← eH2]; exact s1.trans (same_new np1)
    have hp2 : H2 p = some (.lst ((namesOf as_ rs).map nameV)) := by rw [← eH2, upd_ne npp1]; exact hp1
    have hl2 : H2 l = some (.lst []) := by rw [← eH2, upd_ne nlp1]; exact hl1
    have hp12 : H2 p1 = some (.lst (((namesOf as_ rs).map nameV).take as_.length)) := by rw [← eH2, upd_same]
    have hH2 := hH.same s2
    have ents : (((namesOf as_ rs).map nameV).take as_.length).length = as_.length := by rw [List.length_take, List.length_map, namesOf_length]; omega
    have hns : ∀ {i : Nat} {n : Bytes}, (namesOf as_ rs)[i]? = some n → n.length ≤ 16 := fun z => (hR.nm _ (List.mem_of_getElem? z)).2
    have nmL : ∀ n : Bytes, (nb n).length = n.length := fun n => List.length_map _
    refine ⟨_, rfl, h.a, _, _, _, _, rfl, hH2.obj, T.cHeld, T.nHeld_formulas, held_formulas _ _ _ _, p1, h.fa, _, _, rfl, SqL.of hp12, SqL.of (s2 _ _ f1), for_zipM (by rw [ents, ev]; omega)
      (fun i σ H' => ∃ v3 v4 v5 : Option V, σ = [some (.ref h.a), some (.ref p), some (.ref l), v3, v4, v5, none, none, none, none] ∧ Same H H' ∧ H' p = some (.lst ((namesOf as_ rs).map nameV)) ∧ H' p1 = some (.lst (((namesOf as_ rs).map nameV).take as_.length)) ∧ H' l = some (.lst (((as_.take i).map axN).map strV)))
      ⟨none, none, none, rfl, s2, hp2, hp12, hl2⟩ (fun i σ H' ⟨_, _, _, _, s5, _, hq, _⟩ => ⟨SqL.of hq, SqL.of (s5 _ _ f1)⟩) ?_ ?_⟩
    · rintro i x y t σ H' hx hy ⟨v3, v4, v5, rfl, s5, hp, hq, hl⟩ nt
      have hi : i < as_.length := by
        have := (List.getElem?_eq_some_iff.mp hx).1
        omega
      obtain ⟨a, ha⟩ : ∃ a, as_[i]? = some a := ⟨_, List.getElem?_eq_getElem hi⟩
      have hn : (namesOf as_ rs)[i]? = some a.name := by
        unfold namesOf
        rw [List.getElem?_append_left (by rw [List.length_map]; exact hi), List.getElem?_map, ha]
        rfl
      obtain rfl : x = nameV a.name := by
        rw [List.getElem?_take_of_lt hi, List.getElem?_map, hn] at hx
        exact (Option.some.inj hx).symm
      obtain ⟨ax1, ax2⟩ := hR.ax a (List.mem_of_getElem? ha)
      have hfo : (formsOf as_ rs)[i]? = some (some a.f) := by
        have : ∀ (rs : List Vapcma.Row) (l : List (Option Form)) (o : Option Form), l[i]? = some o → (rs.foldl Vapcma.addRow l)[i]? = some o := by
          intro rs
          induction rs with
          | nil => intro l o e; exact e
          | cons r rs ih =>
            intro l o e
            refine ih _ _ ?_
            unfold Vapcma.addRow
            rw [List.getElem?_append_left (List.getElem?_eq_some_iff.mp e).1]
            exact e
        refine this rs _ _ ?_
        rw [List.getElem?_map, ha, Option.map_some, ax1]
      obtain ⟨v, hv, hIv⟩ := f2.get hfo
      rw [hy] at hv
      cases hv
      obtain ⟨b, rfl, hb⟩ := hIv
      have st : Same H' (upd H' t (.tup [nameV a.name, .ref b])) := same_new nt
      refine ⟨t, _, rfl, SqT.of upd_same, rfl, _, _, rfl, _, _, rfl, rfl, ?_⟩
      have vsm := vars_small ax1
      refine ⟨_, rfl, b, a.f, rfl, SqL.of (st _ _ (s5 _ _ hb)), by omega, fun v hv => by have := vsm v hv; omega, fun H3 s3 => ?_⟩
      have s6 : Same H' H3 := st.trans s3
      have hl3 := s6 _ _ hl
      have shl := showN_len a.f (fun v hv => by have := vsm v hv; omega)
      have nml := hns hn
      have e1 := axN_eq a
      refine ⟨_, rfl, .inl ⟨rfl, _, SqL.of hl3⟩, ?_⟩
      show tJs _ (SX.S []) _ H3 _
      refine tjs_c (c := [97, 120, 105, 111, 109, 32]) (by decide +kernel) (by decide) (tjs_v (y := nb a.name) (fun _ z => ⟨_, rfl, z⟩) (by rw [nmL]; simp; omega) (tjs_c (c := [32, 58, 32]) (by decide +kernel) (by simp [nmL]; omega)
        (tjs_v (y := showN a.f) (fun _ z => ⟨_, rfl, z⟩) (by simp [nmL]; omega) (tjs_c (c := [32, 59, 10]) (by decide +kernel) (by simp [nmL]; omega) ?_))))
      refine ⟨l, _, _, rfl, rfl, hl3, by simp; exact fitslt_of (by omega), ?_⟩
      refine ⟨_, _, _, rfl, fun c o z => ?_, ?_, ?_, ?_⟩
      · rw [upd_ne (ne_of_none z fl)]; exact s6 _ _ (s5 _ _ z)
      · rw [upd_ne npl]; exact s6 _ _ hp
      · rw [upd_ne (Ne.symm nlp1)]; exact s6 _ _ hq
      · rw [upd_same, take_succ' ha, List.map_append, List.map_append]
        simp only [List.map_cons, List.map_nil, e1, strV, List.nil_append]
    · rintro σ H' ⟨v3, v4, v5, rfl, s5, hp, hq, hl⟩
      rw [ents, List.take_of_length_le (Nat.le_refl _)] at hl
      have hH3 := hH.same s5
      refine ⟨_, rfl, _, rfl, h.a, _, _, rfl, hH3.obj, lkA, h, as_, rs, gs, rfl, hH3, _, rfl, p, _, rfl, SqL.of hp, fun p2 np2 => ?_⟩
      rw [cut_drop]
      have npp2 : p ≠ p2 := ne_of_none hp np2
      have nlp2 : l ≠ p2 := ne_of_none hl np2
      generalize eH4 : upd H' p2 (.lst (((namesOf as_ rs).map nameV).drop as_.length)) = H4
      have s4 : Same H H4 := by rw [← eH4]; exact s5.trans (same_new np2)
      have hp4 : H4 p = some (.lst ((namesOf as_ rs).map nameV)) := by rw [← eH4, upd_ne npp2]; exact hp
      have hl4 : H4 l = some (.lst ((as_.map axN).map strV)) := by rw [← eH4, upd_ne nlp2]; exact hl
      have hp24 : H4 p2 = some (.lst (((namesOf as_ rs).map nameV).drop as_.length)) := by rw [← eH4, upd_same]
      have hH4 := hH.same s4
      have ends : (((namesOf as_ rs).map nameV).drop as_.length).length = rs.length := by rw [List.length_drop, List.length_map, namesOf_length]; omega
      have gns : ∀ {j : Nat}, j < as_.length + rs.length → ∃ n, (namesOf as_ rs)[j]? = some n := fun hj => ⟨_, List.getElem?_eq_getElem (by rw [namesOf_length]; exact hj)⟩
      have nat : ∀ {j : Nat} {n : Bytes}, (namesOf as_ rs)[j]? = some n → atI ((namesOf as_ rs).map nameV) (j : Int) = some (nameV n) := fun z => atI_nat (by rw [List.getElem?_map, z]; rfl)
      refine ⟨_, rfl, h.a, _, _, _, _, rfl, hH4.obj, T.cHeld, T.nHeld_rows, held_rows _ _ _ _, p2, h.ra, _, _, rfl, SqL.of hp24, SqL.of (s4 _ _ r1), for_zipM (by rw [ends, ew]; exact Nat.le_refl _)
        (fun i σ H' => ∃ v3 v4 v5 v6 v7 v8 : Option V, σ = [some (.ref h.a), some (.ref p), some (.ref l), v3, v4, v5, v6, v7, v8, none] ∧ Same H H' ∧ H' p = some (.lst ((namesOf as_ rs).map nameV)) ∧ H' p2 = some (.lst (((namesOf as_ rs).map nameV).drop as_.length)) ∧ H' l = some (.lst ((as_.map axN ++ (rs.take i).map (rowN (namesOf as_ rs))).map strV)))
        ⟨_, _, _, _, _, _, rfl, s4, hp4, hp24, by simpa using hl4⟩ (fun i σ H' ⟨_, _, _, _, _, _, _, s5, _, hq, _⟩ => ⟨SqL.of hq, SqL.of (s5 _ _ r1)⟩) ?_ ?_⟩
      · rintro i x y t σ H' hx hy ⟨v3, v4, v5, v6, v7, v8, rfl, s5, hp, hq, hl⟩ nt
        have hi : i < rs.length := by
          have := (List.getElem?_eq_some_iff.mp hx).1
          omega
        obtain ⟨r, hr1⟩ : ∃ r, rs[i]? = some r := ⟨_, List.getElem?_eq_getElem hi⟩
        have hn : (namesOf as_ rs)[as_.length + i]? = some r.name := by
          unfold namesOf
          rw [List.getElem?_append_right (by rw [List.length_map]; omega), List.length_map, Nat.add_sub_cancel_left, List.getElem?_map, hr1]
          rfl
        obtain rfl : x = nameV r.name := by
          rw [List.getElem?_drop, List.getElem?_map, hn] at hx
          exact (Option.some.inj hx).symm
        obtain ⟨b1, b2⟩ := hR.row i r hr1
        obtain ⟨ni, hni⟩ := gns (j := r.i) (by omega)
        obtain ⟨nj, hnj⟩ := gns (j := r.j) (by omega)
        obtain ⟨t2, ht1, ht2⟩ := r2.get (i := i) (p := [r.i, r.j]) (by rw [List.getElem?_map, hr1]; rfl)
        rw [hy] at ht1
        cases ht1
        have st : Same H' (upd H' t (.tup [nameV r.name, .ref t2])) := same_new nt
        have ht3 := st _ _ (s5 _ _ ht2)
        have hp3 := st _ _ hp
        have hl3 := st _ _ hl
        refine ⟨t, _, rfl, SqT.of upd_same, rfl, _, _, rfl, _, _, rfl, rfl, ?_⟩
        refine ⟨_, rfl, _, rfl, t2, _, 0, _, rfl, rfl, SqT.of ht3, atI_nat (j := 0) rfl, p, _, _, _, rfl, rfl, SqL.of hp3, nat hni, ?_⟩
        refine ⟨_, rfl, _, rfl, t2, _, 1, _, rfl, rfl, SqT.of ht3, atI_nat (j := 1) rfl, p, _, _, _, rfl, rfl, SqL.of hp3, nat hnj, ?_⟩
        have l0 := hns hn
        have l1 := hns hni
        have l2 := hns hnj
        have e1 := rowN_eq (namesOf as_ rs) r
        rw [hni, hnj] at e1
        refine ⟨_, rfl, .inl ⟨rfl, _, SqL.of hl3⟩, ?_⟩
        show tJs _ (SX.S []) _ _ _
        refine tjs_c (c := [114, 111, 119, 32]) (by decide +kernel) (by decide) (tjs_v (y := nb r.name) (fun _ z => ⟨_, rfl, z⟩) (by rw [nmL]; simp; omega) (tjs_c (c := [32, 58, 32]) (by decide +kernel) (by simp [nmL]; omega)
          (tjs_v (y := nb ni) (fun _ z => ⟨_, rfl, z⟩) (by simp [nmL]; omega) (tjs_c (c := [44, 32]) (by decide +kernel) (by simp [nmL]; omega) (tjs_v (y := nb nj) (fun _ z => ⟨_, rfl, z⟩) (by simp [nmL]; omega) (tjs_c (c := [32, 59, 10]) (by decide +kernel) (by simp [nmL]; omega) ?_))))))
        refine ⟨l, _, _, rfl, rfl, hl3, by simp; exact fitslt_of (by omega), ?_⟩
        refine ⟨_, _, _, _, _, _, rfl, fun c o z => ?_, ?_, ?_, ?_⟩
        · rw [upd_ne (ne_of_none z fl)]; exact st _ _ (s5 _ _ z)
        · rw [upd_ne npl]; exact hp3
        · rw [upd_ne (Ne.symm nlp2)]; exact st _ _ hq
        · rw [upd_same, take_succ' hr1]
          simp only [List.map_append, List.map_cons, List.map_nil, e1, strV, List.nil_append, Option.getD_some, List.append_assoc]
      · rintro σ H' ⟨v3, v4, v5, v6, v7, v8, rfl, s5, hp, hq, hl⟩
        rw [ends, List.take_of_length_le (Nat.le_refl _)] at hl
        have hH5 := hH.same s5
        refine ⟨_, rfl, h.a, _, _, _, _, rfl, hH5.obj, T.cHeld, T.nHeld_goals, held_goals _ _ _ _, h.ga, rfl, ⟨_, SqL.of (s5 _ _ g1)⟩, for_list (K := K) (a := h.ga) (xs := us)
          (fun i σ H' => ∃ v3 v4 v5 v6 v7 v8 v9 : Option V, σ = [some (.ref h.a), some (.ref p), some (.ref l), v3, v4, v5, v6, v7, v8, v9] ∧ Same H H' ∧ H' l = some (.lst ((as_.map axN ++ (rs.map (rowN (namesOf as_ rs)) ++ (gs.take i).map goalN)).map strV)))
          ⟨_, _, _, _, _, _, _, rfl, s5, by simpa using hl⟩ (fun i σ H' _ ⟨_, _, _, _, _, _, _, _, s5, _⟩ => SqL.of (s5 _ _ g1)) ?_ ?_⟩
        · rintro i x σ H' hx ⟨v3, v4, v5, v6, v7, v8, v9, rfl, s5, hl⟩
          have hi : i < gs.length := by
            have := (List.getElem?_eq_some_iff.mp hx).1
            omega
          obtain ⟨g, hg⟩ : ∃ g, gs[i]? = some g := ⟨_, List.getElem?_eq_getElem hi⟩
          obtain ⟨v, hv, hIv⟩ := g2.get (i := i) (o := some g) (by rw [List.getElem?_map, hg]; rfl)
          rw [hx] at hv
          cases hv
          obtain ⟨b, rfl, hb⟩ := hIv
          obtain ⟨ax1, ax2⟩ := hR.gl g (List.mem_of_getElem? hg)
          have vsm := vars_small ax1
          refine ⟨_, rfl, b, g, rfl, SqL.of (s5 _ _ hb), by omega, fun v hv => by have := vsm v hv; omega, fun H3 s3 => ?_⟩
          have hl3 := s3 _ _ hl
          have shl := showN_len g (fun v hv => by have := vsm v hv; omega)
          have e1 := goalN_eq g
          refine ⟨_, rfl, .inl ⟨rfl, _, SqL.of hl3⟩, ?_⟩
          show tJs _ (SX.S []) _ H3 _
          refine tjs_c (c := [103, 111, 97, 108, 32]) (by decide +kernel) (by decide) (tjs_v (y := showN g) (fun _ z => ⟨_, rfl, z⟩) (by simp; omega) (tjs_c (c := [32, 59, 10]) (by decide +kernel) (by simp; omega) ?_))
          refine ⟨l, _, _, rfl, rfl, hl3, by simp; exact fitslt_of (by omega), ?_⟩
          refine ⟨_, _, _, _, _, _, _, rfl, fun c o z => ?_, ?_⟩
          · rw [upd_ne (ne_of_none z fl)]; exact s3 _ _ (s5 _ _ z)
          · rw [upd_same, take_succ' hg]
            simp only [List.map_append, List.map_cons, List.map_nil, e1, strV, List.nil_append, List.append_assoc]
        · rintro σ H' ⟨v3, v4, v5, v6, v7, v8, v9, rfl, s5, hl⟩
          rw [eu, List.take_of_length_le (Nat.le_refl _)] at hl
          have hl' : H' l = some (.lst (((allN as_ rs gs).map SX.S).map V.str)) := by rw [hl, List.map_map]; rfl
          have bound : ∀ x ∈ allN as_ rs gs, x.length ≤ 500 := by
            intro x hx
            rcases List.mem_append.mp hx with hx | hx
            · obtain ⟨a, ha, rfl⟩ := List.mem_map.mp hx
              obtain ⟨ax1, ax2⟩ := hR.ax a ha
              have vsm := vars_small ax1
              have shl := showN_len a.f (fun v hv => by have := vsm v hv; omega)
              have := (hR.nm a.name (by unfold namesOf; exact List.mem_append_left _ (List.mem_map_of_mem ha))).2
              rw [axN_eq]
              simp only [List.length_append, nmL, List.length_cons, List.length_nil]
              omega
            · rcases List.mem_append.mp hx with hx | hx
              · obtain ⟨r, hr, rfl⟩ := List.mem_map.mp hx
                have h0 := (hR.nm r.name (by unfold namesOf; exact List.mem_append_right _ (List.mem_map_of_mem hr))).2
                have hgl : ∀ j : Nat, ((namesOf as_ rs)[j]?.getD []).length ≤ 16 := fun j => by
                  cases e : (namesOf as_ rs)[j]? with
                  | none => simp
                  | some n => exact hns e
                have h1 := hgl r.i
                have h2 := hgl r.j
                rw [rowN_eq]
                simp only [List.length_append, nmL, List.length_cons, List.length_nil]
                omega
              · obtain ⟨g, hg, rfl⟩ := List.mem_map.mp hx
                obtain ⟨ax1, ax2⟩ := hR.gl g hg
                have vsm := vars_small ax1
                have shl := showN_len g (fun v hv => by have := vsm v hv; omega)
                rw [goalN_eq]
                simp only [List.length_append, List.length_cons, List.length_nil]
                omega
          have hsum : ∀ l : List (List Nat), (∀ x ∈ l, x.length ≤ 500) → (l.map (·.length)).sum ≤ 500 * l.length := by
            intro l
            induction l with
            | nil => intro _; simp
            | cons x l ih =>
              intro hl
              have h1 := hl x List.mem_cons_self
              have h2 := ih fun y hy => hl y (List.mem_cons_of_mem _ hy)
              simp only [List.map_cons, List.sum_cons, List.length_cons]
              omega
          have hb := hsum _ bound
          have hal : (allN as_ rs gs).length ≤ 34 := by
            unfold allN
            simp only [List.length_append, List.length_map]
            omega
          refine ⟨⟨_, rfl⟩, _, rfl, Str.empty, l, (allN as_ rs gs).map SX.S, rfl, rfl, .inl (SqL.of hl'), ?_, ?_⟩
          · rw [SX.lens]
            have : (Str.empty : Str).length = 0 := by decide
            rw [this]
            omega
          · have ej : Txt.join Str.empty ((allN as_ rs gs).map SX.S) = SX.S (nb (Vapcma.shown ⟨as_, rs, gs⟩)) := by
              rw [shown_eq, ← joinL_nil]
              exact SX.join_S [] _
            rw [ej]
            exact q H' s5
end
end Dr

namespace Dr
open PySem PySem.Spec PyProof.Rows L2
open VapcmBase (Bytes isBlank isLetter isDigit)
/-! ## tokens.py -/
def txV (d : Bytes) : V := .str (SX.S (d.map cv))
theorem tx_len (d : Bytes) : (SX.S (d.map cv)).length = d.length := by rw [SX.S_len, List.length_map]
theorem tx_at {d : Bytes} {p : Nat} {b : UInt8} (h : d[p]? = some b) : atI (SX.S (d.map cv)).cps.toList (p : Int) = some (cv b) := atI_nat (by
  show (d.map cv)[p]? = _
  rw [List.getElem?_map, h]; rfl)
theorem at_lt {α : Type} {l : List α} {p : Nat} (h : p < l.length) : ∃ b, l[p]? = some b := ⟨_, List.getElem?_eq_getElem h⟩
section
variable {P : Program} {w : World} {K : PySem.W.Frag} {mg : Str → Option Value} {base : Heap} {L : Lay}
def inQ (l : List Nat) (b : UInt8) : Bool := decide (cv b ∈ l)
def sp_run_end : Sp := fun vs H Q _ => ∃ (d : Bytes) (p : Nat) (l : List Nat), vs = [txV d, iv p, .str (SX.S l)] ∧ d.length ≤ 10000 ∧ p ≤ d.length ∧ Q (iv (p + runLen (inQ l) d p)) H
abbrev s_run_end : Stmt := top 40
theorem sc_run_end : FnScope ["text", "place", "allowed"] ["text", "place", "allowed"] (defScope s_run_end) := ⟨rfl, rfl, rfl, by decide +kernel, rfl, by decide +kernel, by decide +kernel⟩
theorem ok_run_end {f : Addr} {fd : FuncData} (F : Fun K "run_end" "run_end" s_run_end f fd) (T : Txt K mg L) : FnOk P w K mg base CX0 1 f fd ["text", "place", "allowed"] sp_run_end := by
  refine F.ok sc_run_end (fun vs H Q E h => ?_) (fun cdv A outer s H vs Q E hr h => ?_)
  · obtain ⟨d, p, l, rfl, _⟩ := h
    rfl
  · have n_len := T.n_len
    refine ⟨_, pss_cons (ps_while PassesOwn.never (PW.pt (pw_and (pt_cmpR op_lt (pv 1) (pe_callB call_len_str (by rfl) n_len PySem.boot_len (pa_cons (pv 0) pa_nil)) (nomark _)) (pw_and1 (pt_cmpR op_in_sign (pe_ix ix_str (pv 0) (pv 1) (fun _ _ => rfl)) (pv 2) (by rfl)))))
        (pss_one (ps_aug (i := 1) sc_run_end.nd rfl (.inl rfl) pe_int ip_add)))
      (pss_one (ps_ret (pv 1))), ?_⟩
    obtain ⟨d, p, l, rfl, hz, hp, q⟩ := h
    refine ⟨fun m σ H' => H' = H ∧ ∃ e : Nat, σ = [some (txV d), some (iv e), some (.str (SX.S l))] ∧ e ≤ d.length ∧ e + runLen (inQ l) d e = p + runLen (inQ l) d p ∧ m = d.length - e, ⟨_, rfl, p, rfl, hp, rfl, rfl⟩, ?_⟩
    rintro m σ H' ⟨rfl, e, rfl, he, hrun, rfl⟩
    have fits : (SX.S (d.map cv)).length ≤ sizeLine := by rw [tx_len]; exact fits_of (by omega)
    refine ⟨_, rfl, _, rfl, _, rfl, fits, _, _, rfl, rfl, _, rfl, ?_⟩
    rw [tx_len]
    refine ite2 (fun c => ?_) (fun c => ?_)
    · have c : e < d.length := by have := of_decide_eq_true c; omega
      obtain ⟨b, hb⟩ := at_lt c
      refine ⟨_, rfl, _, rfl, _, _, _, rfl, rfl, fits, tx_at hb, _, rfl, _, _, rfl, rfl, _, rfl, ?_⟩
      refine ite2 (fun c2 => ?_) (fun c2 => ?_)
      · refine ⟨fun σ' H2 => ∃ m', m' < d.length - e ∧ (H2 = H' ∧ ∃ e : Nat, σ' = [some (txV d), some (iv e), some (.str (SX.S l))] ∧ e ≤ d.length ∧ e + runLen (inQ l) d e = p + runLen (inQ l) d p ∧ m' = d.length - e), fun _ _ z => z, ?_⟩
        refine ⟨_, rfl, _, _, rfl, rfl, ?_⟩
        have hs := runLen_step (q := inQ l) hb c2
        exact ⟨d.length - (e + 1), by omega, rfl, e + 1, rfl, by omega, by omega, rfl⟩
      · have hs := runLen_stop (q := inQ l) hb (by simpa [inQ] using c2)
        refine ⟨_, rfl, ?_⟩
        rw [hs, Nat.add_zero] at hrun
        rw [hrun]
        exact q
    · have c : d.length ≤ e := by
        rcases Nat.lt_or_ge e d.length with h | h
        · exact absurd (decide_eq_true (by omega)) c
        · exact h
      have hs := runLen_end (q := inQ l) c
      refine ⟨_, rfl, ?_⟩
      rw [hs, Nat.add_zero] at hrun
      rw [hrun]
      exact q
theorem dec_val (w : Bytes) : NumText.digitsVal (nb w) = VapcmBase.decimal w := by
  unfold NumText.digitsVal VapcmBase.decimal nb
  rw [List.foldl_map]
  congr 1
  funext a b
  omega
def sp_is_number : Sp := fun vs H Q _ => ∃ (w : Bytes), vs = [.str (SX.S (nb w))] ∧ w.length ≤ 10000 ∧ (∀ b ∈ w, isDigit b = true) ∧ Q (.bl (numOk w)) H
abbrev s_is_number : Stmt := top 41
theorem sc_is_number : FnScope ["digits"] ["digits"] (defScope s_is_number) := ⟨rfl, rfl, rfl, by decide +kernel, rfl, by decide +kernel, by decide +kernel⟩
theorem str_eq_nil (w : Bytes) : decide (V.str (SX.S (nb w)) = V.str (SX.S [])) = decide (w = []) := by
  cases w with
  | nil => rfl
  | cons b r =>
    rw [Bool.eq_iff_iff, decide_eq_true_iff, decide_eq_true_iff]
    constructor
    · intro e
      have := SX.S_inj (V.str.inj e)
      cases this
    · intro e; cases e
theorem ok_is_number {f : Addr} {fd : FuncData} (F : Fun K "is_number" "is_number" s_is_number f fd) (T : Txt K mg L) : FnOk P w K mg base CX0 1 f fd ["digits"] sp_is_number := by
  refine F.ok sc_is_number (fun vs H Q E h => ?_) (fun cdv A outer s H vs Q E hr h => ?_)
  · obtain ⟨w, rfl, _⟩ := h
    rfl
  · have n_len := T.n_len
    have n_int := T.n_int
    obtain ⟨t1, g_LONGEST_NUMBER⟩ := T.vLONGEST_NUMBER
    obtain ⟨t2, g_GREATEST_NUMBER⟩ := T.vGREATEST_NUMBER
    refine ⟨_, pss_cons (ps_if (PW.pt (pw_or (pt_cmpR op_eq (pv 0) pe_str (nomark _)) (pw_or1 (pt_cmpR op_gt (pe_callB call_len_str (by rfl) n_len PySem.boot_len (pa_cons (pv 0) pa_nil)) (pe_gi g_LONGEST_NUMBER) (nomark _)))))
        (pss_one (ps_ret pe_bl))
        (pss_nil))
      (pss_cons (ps_if (PW.pt (pw_and (pt_cmpR op_gt (pe_callB call_len_str (by rfl) n_len PySem.boot_len (pa_cons (pv 0) pa_nil)) pe_int (nomark _)) (pw_and1 (pt_cmpR op_eq (pe_ix ix_str (pv 0) pe_int (fun _ _ => rfl)) pe_str (nomark _)))))
        (pss_one (ps_ret pe_bl))
        (pss_nil))
      (pss_one (ps_ret (pe_cmpR op_le (pe_callTy call_int_str (by rfl) n_int (by decide +kernel) (pa_cons (pv 0) pa_nil)) (pe_gi g_GREATEST_NUMBER) (nomark _))))), ?_⟩
    obtain ⟨w, rfl, hz, hd, q⟩ := h
    have nl : (SX.S (nb w)).length = w.length := by rw [SX.S_len, nb, List.length_map]
    have fits : (SX.S (nb w)).length ≤ sizeLine := by rw [nl]; exact fits_of (by omega)
    refine ⟨_, rfl, rfl, _, rfl, ?_⟩
    have e0 : decide (V.str (SX.S (nb w)) = V.str (Str.ofString "")) = decide (w = []) := str_eq_nil w
    rw [e0]
    by_cases c0 : w = []
    · refine iteT' (decide_eq_true c0) ?_
      refine iteT ?_
      subst c0
      exact q
    refine iteF' (decide_eq_false c0) ?_
    refine ⟨_, rfl, _, rfl, fits, _, _, rfl, rfl, _, rfl, ?_⟩
    rw [nl]
    by_cases c1 : 10 < w.length
    · refine iteT' (decide_eq_true (by omega)) ?_
      have : numOk w = false := by
        unfold numOk
        rw [decide_eq_false (p := w.length ≤ 10) (by omega)]
        simp
      rw [this] at q
      exact q
    refine iteF' (decide_eq_false (by omega)) ?_
    refine ⟨_, rfl, _, rfl, fits, _, _, rfl, rfl, _, rfl, ?_⟩
    rw [nl]
    obtain ⟨b, r, rfl⟩ : ∃ b r, w = b :: r := by
      cases w with
      | nil => exact absurd rfl c0
      | cons b r => exact ⟨b, r, rfl⟩
    have last : numOk (b :: r) = (!(decide (1 < (b :: r).length) && decide ((b :: r).head? = some 48)) && decide (VapcmBase.decimal (b :: r) ≤ 1000000000)) := by
      unfold numOk
      rw [decide_eq_true c0, decide_eq_true (p := (b :: r).length ≤ 10) (by omega)]
      simp
    have fin : (decide (1 < (b :: r).length) && decide ((b :: r).head? = some 48)) = false → ∃ t, intText? (SX.S (nb (b :: r))) = some t ∧ Q (.bl (decide (t ≤ 1000000000))) H := fun e => by
      refine ⟨_, SX.int_S (a := nb (b :: r)) ?_ (by simp [nb]) (by simp [nb] at *; omega), ?_⟩
      · rw [List.all_eq_true]
        intro x hx
        obtain ⟨y, hy, rfl⟩ := List.mem_map.mp hx
        have := (digit_val y).mp (hd y hy)
        simp [this]
      · rw [last, e] at q
        rw [dec_val]
        have e2 : decide (((VapcmBase.decimal (b :: r) : Nat) : Int) ≤ 1000000000) = (!false && decide (VapcmBase.decimal (b :: r) ≤ 1000000000)) := by
          rw [Bool.eq_iff_iff]; simp; omega
        rw [e2]
        exact q
    by_cases c2 : 1 < (b :: r).length
    · refine iteT' (decide_eq_true (by omega)) ?_
      refine ⟨_, rfl, _, 0, _, rfl, rfl, fits, atI_nat (j := 0) rfl, rfl, _, rfl, ?_⟩
      have e3 : decide (V.str (⟨#[b.toNat]⟩ : Str) = V.str (Str.ofString "0")) = decide ((b :: r).head? = some 48) := by
        rw [Bool.eq_iff_iff, decide_eq_true_iff, decide_eq_true_iff]
        constructor
        · intro e
          have e' : SX.S [b.toNat] = SX.S [48] := V.str.inj e
          have := (List.cons.inj (SX.S_inj e')).1
          simp only [List.head?_cons, Option.some.injEq]
          exact UInt8.toNat_inj.mp this
        · intro e
          simp only [List.head?_cons, Option.some.injEq] at e
          subst e
          rfl
      show if decide (V.str (⟨#[b.toNat]⟩ : Str) = V.str (Str.ofString "0")) = true then _ else _
      rw [e3]
      by_cases c3 : (b :: r).head? = some 48
      · refine iteT' (decide_eq_true c3) ?_
        rw [last, decide_eq_true c2, decide_eq_true c3] at q
        exact q
      · refine iteF' (decide_eq_false c3) ?_
        obtain ⟨t, h1, h2⟩ := fin (by rw [decide_eq_false c3, Bool.and_false])
        exact ⟨_, rfl, _, _, rfl, h1, by rw [nl]; omega, _, _, rfl, rfl, h2⟩
    · refine iteF' (decide_eq_false (by omega)) ?_
      refine iteF ?_
      obtain ⟨t, h1, h2⟩ := fin (by rw [decide_eq_false c2, Bool.false_and])
      exact ⟨_, rfl, _, _, rfl, h1, by rw [nl]; omega, _, _, rfl, rfl, h2⟩
end
end Dr

namespace Dr
open PySem PySem.Spec PyProof.Rows L2
open VapcmBase (Bytes isBlank isLetter isDigit)
theorem runLen_is {q : UInt8 → Bool} {d : Bytes} : ∀ (n p : Nat), p + n ≤ d.length → (∀ v b, p ≤ v → v < p + n → d[v]? = some b → q b = true) → (∀ b, d[p + n]? = some b → q b = false) → p + runLen q d p = p + n
  | 0, p, h, _, hs => by
    by_cases c : p < d.length
    · obtain ⟨b, hb⟩ := at_lt c
      rw [runLen_stop hb (hs b hb)]
    · rw [runLen_end (by omega)]
  | n + 1, p, h, ha, hs => by
    obtain ⟨b, hb⟩ := at_lt (l := d) (p := p) (by omega)
    rw [runLen_step hb (ha p b (Nat.le_refl _) (by omega) hb)]
    have ih := runLen_is (q := q) (d := d) n (p + 1) (by omega) (fun v b h1 h2 h3 => ha v b (by omega) (by omega) h3) (fun b hb => hs b (by rw [show p + (n + 1) = p + 1 + n by omega]; exact hb))
    omega
theorem cps_getD {d : Bytes} {v : Nat} {b : UInt8} (h : d[v]? = some b) : (SX.S (d.map cv)).cps.getD v 0 = cv b := by
  show (d.map cv).toArray.getD v 0 = _
  rw [Array.getD_eq_getD_getElem?, List.getElem?_toArray, List.getElem?_map, h]
  rfl
theorem fromIndex_nat (n p : Nat) : fromIndex n (p : Int) = p := by
  unfold fromIndex
  rw [if_neg (by omega)]
  omega
section
variable {P : Program} {w : World} {K : PySem.W.Frag} {mg : Str → Option Value} {base : Heap} {L : Lay}
def no10 (b : UInt8) : Bool := b != 10
def sp_remark_end : Sp := fun vs H Q _ => ∃ (d : Bytes) (p : Nat), vs = [txV d, iv p] ∧ d.length ≤ 10000 ∧ p ≤ d.length ∧ Q (iv (p + runLen no10 d p)) H
abbrev s_remark_end : Stmt := top 38
theorem sc_remark_end : FnScope ["text", "place", "end"] ["text", "place"] (defScope s_remark_end) := ⟨rfl, rfl, rfl, by decide +kernel, rfl, by decide +kernel, by decide +kernel⟩
theorem ok_remark_end {f : Addr} {fd : FuncData} (F : Fun K "remark_end" "remark_end" s_remark_end f fd) (T : Txt K mg L) : FnOk P w K mg base CX0 1 f fd ["text", "place"] sp_remark_end := by
  refine F.ok sc_remark_end (fun vs H Q E h => ?_) (fun cdv A outer s H vs Q E hr h => ?_)
  · obtain ⟨d, p, rfl, _⟩ := h
    rfl
  · have n_len := T.n_len
    refine ⟨_, pss_cons (ps_set (i := 2) sc_remark_end.nd rfl (Or.inl rfl) (pe_bm PySem.F.plainAttrs_str PySem.F.slot_str_find PySem.F.type_str_find mt_find3 (pv 0) (pa_cons pe_str (pa_cons (pv 1) pa_nil))))
      (pss_one (ps_ret (pe_ifExp (pt_cmpR op_lt (pv 2) pe_int (nomark _)) (pe_callB call_len_str (by rfl) n_len PySem.boot_len (pa_cons (pv 0) pa_nil)) (pv 2)))), ?_⟩
    obtain ⟨d, p, rfl, hz, hp, q⟩ := h
    have fits : (SX.S (d.map cv)).length ≤ sizeLine := by rw [tx_len]; exact fits_of (by omega)
    have ten : ∀ b : UInt8, (cv b = 10) ↔ no10 b = false := fun b => by
      rw [cv_ten]
      simp [no10]
    refine ⟨_, rfl, rfl, ?_⟩
    refine ⟨_, rfl, _, _, _, rfl, rfl, ?_⟩
    have go : ∀ z : Int, Txt.find3 (SX.S (d.map cv)) (Str.ofString "\n") (p : Int) = z → (if z < 0 then (d.length : Int) else z) = ((p + runLen no10 d p : Nat) : Int) →
        tRet (tIf (tTest (tOp (rI0 fun i j => V.bl (decide (i < j))) (tVar 2) (tC (V.int 0)))) (tCB (fun xs H Q => ∃ z, xs = [V.str z] ∧ z.length ≤ sizeLine ∧ Q (V.int ↑z.length) H) (tCons (tVar 0) tNil)) (tVar 2))
          { nx := fun x H' => Q V.non H', rt := Q } [some (txV d), some (iv p), some (.int (Txt.find3 (SX.S (d.map cv)) (Str.ofString "\n") (p : Int)))] H := by
      intro z e hz
      rw [e]
      refine ⟨_, rfl, _, _, rfl, rfl, _, rfl, ?_⟩
      by_cases c : z < 0
      · refine iteT' (decide_eq_true c) ?_
        rw [if_pos c] at hz
        refine ⟨_, rfl, _, rfl, fits, ?_⟩
        rw [tx_len, hz]
        exact q
      · refine iteF' (decide_eq_false c) ?_
        rw [if_neg c] at hz
        rw [hz]
        exact ⟨_, rfl, q⟩
    rcases StrLaws.find3_spec (SX.S (d.map cv)) 10 (p : Int) with ⟨e, hn⟩ | ⟨k, e, h1, h2, h3, h4⟩
    · refine go (-1) e ?_
      rw [if_pos (by omega)]
      rw [fromIndex_nat, tx_len] at hn
      have := runLen_is (q := no10) (d := d) (d.length - p) p (by omega) (fun v b v1 v2 hb => by
        have z := hn v v1 (by omega)
        rw [cps_getD hb] at z
        cases e : no10 b with
        | true => rfl
        | false => exact absurd ((ten b).mpr e) z) (fun b hb => by
        rw [show p + (d.length - p) = d.length by omega, List.getElem?_eq_none (Nat.le_refl _)] at hb; cases hb)
      omega
    · rw [fromIndex_nat] at h1 h4
      rw [tx_len] at h2
      refine go (k : Int) e ?_
      rw [if_neg (by omega)]
      have := runLen_is (q := no10) (d := d) (k - p) p (by omega) (fun v b v1 v2 hb => by
        have z := h4 v v1 (by omega)
        rw [cps_getD hb] at z
        cases e : no10 b with
        | true => rfl
        | false => exact absurd ((ten b).mpr e) z) (fun b hb => by
        rw [show p + (k - p) = k by omega] at hb
        rw [cps_getD hb] at h3
        exact (ten b).mp h3)
      omega
def sp_after_blanks : Sp := fun vs H Q _ => ∃ (d : Bytes) (p : Nat), vs = [txV d, iv p] ∧ d.length ≤ 10000 ∧ p ≤ d.length ∧ ∀ p' : Nat, p ≤ p' → p' ≤ d.length → lexAt d p = lexAt d p' → (∀ b, d[p']? = some b → isBlank b = false ∧ (b == 35) = false) → Q (iv p') H
abbrev s_after_blanks : Stmt := top 37
theorem sc_after_blanks : FnScope ["text", "place"] ["text", "place"] (defScope s_after_blanks) := ⟨rfl, rfl, rfl, by decide +kernel, rfl, by decide +kernel, by decide +kernel⟩
theorem ok_after_blanks {f : Addr} {fd : FuncData} (F : Fun K "after_blanks" "after_blanks" s_after_blanks f fd) (T : Txt K mg L) (h_remark_end : HasDef P w K mg base CX0 1 "remark_end" ["text", "place"] sp_remark_end) : FnOk P w K mg base CX0 2 f fd ["text", "place"] sp_after_blanks := by
  refine F.ok sc_after_blanks (fun vs H Q E h => ?_) (fun cdv A outer s H vs Q E hr h => ?_)
  · obtain ⟨d, p, rfl, _⟩ := h
    rfl
  · have n_len := T.n_len
    obtain ⟨t1, g_REMARK⟩ := T.vREMARK
    obtain ⟨t2, g_BLANKS⟩ := T.vBLANKS
    obtain ⟨f_remark_end, fd_remark_end, m_remark_end, k_remark_end, b_remark_end, G_remark_end⟩ := h_remark_end
    refine ⟨_, pss_cons (ps_while PassesOwn.never (pt_cmpR op_lt (pv 1) (pe_callB call_len_str (by rfl) n_len PySem.boot_len (pa_cons (pv 0) pa_nil)) (nomark _))
        (pss_one (ps_if (pt_cmpR op_eq (pe_ix ix_str (pv 0) (pv 1) (fun _ _ => rfl)) (pe_gs g_REMARK) (nomark _))
            (pss_one (ps_set (i := 1) sc_after_blanks.nd rfl (Or.inl rfl) (pe_call G_remark_end (hr.mono (by decide)) rfl m_remark_end k_remark_end b_remark_end .nil pass0 (pa_cons (pv 0) (pa_cons (pv 1) pa_nil)))))
            (pss_one (ps_if (pt_cmpR op_in_sign (pe_ix ix_str (pv 0) (pv 1) (fun _ _ => rfl)) (pe_gs g_BLANKS) (by rfl))
                (pss_one (ps_aug (i := 1) sc_after_blanks.nd rfl (.inl rfl) pe_int ip_add))
                (pss_one (ps_ret (pv 1))))))))
      (pss_one (ps_ret (pv 1))), ?_⟩
    obtain ⟨d, p, rfl, hz, hp, q⟩ := h
    have fits : (SX.S (d.map cv)).length ≤ sizeLine := by rw [tx_len]; exact fits_of (by omega)
    refine ⟨fun m σ H' => H' = H ∧ ∃ e : Nat, σ = [some (txV d), some (iv e)] ∧ p ≤ e ∧ e ≤ d.length ∧ lexAt d p = lexAt d e ∧ m = d.length - e, ⟨_, rfl, p, rfl, Nat.le_refl _, hp, rfl, rfl⟩, ?_⟩
    rintro m σ H' ⟨rfl, e, rfl, he1, he2, hlex, rfl⟩
    refine ⟨_, rfl, _, rfl, _, rfl, fits, _, _, rfl, rfl, _, rfl, ?_⟩
    rw [tx_len]
    refine ite2 (fun c => ?_) (fun c => ?_)
    · have c : e < d.length := by have := of_decide_eq_true c; omega
      obtain ⟨b, hb⟩ := at_lt c
      refine ⟨fun σ' H2 => ∃ m', m' < d.length - e ∧ (H2 = H' ∧ ∃ e : Nat, σ' = [some (txV d), some (iv e)] ∧ p ≤ e ∧ e ≤ d.length ∧ lexAt d p = lexAt d e ∧ m' = d.length - e), fun _ _ z => z, ?_⟩
      refine ⟨_, rfl, _, rfl, _, _, _, rfl, rfl, fits, tx_at hb, rfl, _, rfl, ?_⟩
      have e35 : decide (V.str (⟨#[cv b]⟩ : Str) = V.str (SX.S [35])) = (b == 35) := by
        rw [Bool.eq_iff_iff, decide_eq_true_iff, ← cv_hash]
        constructor
        · intro z
          exact (List.cons.inj (SX.S_inj (a := [cv b]) (V.str.inj z))).1
        · intro z
          rw [z]
      rw [e35]
      cases h35 : (b == 35) with
      | true =>
        refine iteT' rfl ?_
        refine ⟨_, rfl, _, rfl, d, e, rfl, hz, he2, ?_⟩
        have hblank : isBlank b = false := by
          rw [beq_iff_eq] at h35
          subst h35
          decide
        have q10 : no10 b = true := by
          rw [beq_iff_eq] at h35
          subst h35
          decide
        have l1 := lexAt_hash hb hblank h35
        have hs := runLen_step (q := no10) hb q10
        have hle := runLen_le no10 d (e + 1)
        have l2 : lexAt d e = lexAt d (e + runLen no10 d e) := by
          rw [l1, hs]
          have : e + 1 + ((d.drop (e + 1)).takeWhile (· != 10)).length = e + (runLen no10 d (e + 1) + 1) := by
            show e + 1 + runLen no10 d (e + 1) = _
            omega
          rw [this]
        exact ⟨d.length - (e + runLen no10 d e), by omega, rfl, e + runLen no10 d e, rfl, by omega, by omega, hlex.trans l2, rfl⟩
      | false =>
        refine iteF' rfl ?_
        refine ⟨_, rfl, _, rfl, _, _, _, rfl, rfl, fits, tx_at hb, _, _, rfl, rfl, _, rfl, ?_⟩
        have ebl : decide (cv b ∈ (SX.S blanksN).cps.toList) = isBlank b := by
          rw [Bool.eq_iff_iff, decide_eq_true_iff, ← cv_blank]
        rw [ebl]
        cases hbl : isBlank b with
        | true =>
          refine iteT' rfl ?_
          refine ⟨_, rfl, _, _, rfl, rfl, ?_⟩
          exact ⟨d.length - (e + 1), by omega, rfl, e + 1, rfl, by omega, by omega, hlex.trans (lexAt_blank hb hbl), rfl⟩
        | false =>
          refine iteF' rfl ?_
          refine ⟨_, rfl, ?_⟩
          refine q e he1 he2 hlex fun b' hb' => ?_
          rw [hb] at hb'
          cases hb'
          exact ⟨hbl, h35⟩
    · have c : d.length ≤ e := by
        rcases Nat.lt_or_ge e d.length with h | h
        · exact absurd (decide_eq_true (by omega)) c
        · exact h
      refine ⟨_, rfl, ?_⟩
      refine q e he1 he2 hlex fun b' hb' => ?_
      rw [List.getElem?_eq_none c] at hb'; cases hb'
end
end Dr

namespace Dr
open PySem PySem.Spec PyProof.Rows L2
open VapcmBase (Bytes isBlank isLetter isDigit token Fault)
/-- a fault goes out: all but S stands -/
def FltE (L : Lay) (E : XK) (S : Addr → Prop) (H : Hp) (f : VapcmBase.Fault) : Prop :=
  ∀ H' dx, Fr S H H' → H dx = none → H' dx = some (.xd (fltF (iv f.code) (iv f.place))) → E (.ref L.Fault) (some dx) H'
abbrev NoS : Addr → Prop := fun _ => False
theorem nat_letter (b : UInt8) : b.toNat ∈ lettersN ↔ isLetter b = true := by
  revert b
  exact all_bytes (p := fun b => b.toNat ∈ lettersN ↔ isLetter b = true) (by decide +kernel)
theorem nbS_eq (a b : Bytes) : (SX.S (nb a) == SX.S (nb b)) = (a == b) := by
  rw [SX.S_beq_eq, Bool.eq_iff_iff, decide_eq_true_iff, beq_iff_eq]
  exact ⟨nb_inj, fun e => by rw [e]⟩
theorem mem_tw {q : UInt8 → Bool} : ∀ {l : Bytes} {c : UInt8}, c ∈ l.takeWhile q → q c = true
  | b :: r, c, h => by
    rw [List.takeWhile_cons] at h
    cases e : q b with
    | false => rw [e] at h; cases h
    | true =>
      rw [e] at h
      rcases List.mem_cons.mp h with h | h
      · rw [h]; exact e
      · exact mem_tw h
section
variable {P : Program} {w : World} {K : PySem.W.Frag} {mg : Str → Option Value} {base : Heap} {L : Lay}
def sp_is_name : Sp := fun vs H Q _ => ∃ (w : Bytes), vs = [.str (SX.S (nb w))] ∧ w.length ≤ 10000 ∧ Q (.bl (wordIsName w)) H
abbrev s_is_name : Stmt := top 42
theorem sc_is_name : FnScope ["word"] ["word"] (defScope s_is_name) := ⟨rfl, rfl, rfl, by decide +kernel, rfl, by decide +kernel, by decide +kernel⟩
theorem ok_is_name {f : Addr} {fd : FuncData} (F : Fun K "is_name" "is_name" s_is_name f fd) (T : Txt K mg L) : FnOk P w K mg base CX0 1 f fd ["word"] sp_is_name := by
  refine F.ok sc_is_name (fun vs H Q E h => ?_) (fun cdv A outer s H vs Q E hr h => ?_)
  · obtain ⟨w, rfl, _⟩ := h
    rfl
  · obtain ⟨t1, g_END⟩ := T.vEND
    obtain ⟨t2, g_LETTERS⟩ := T.vLETTERS
    obtain ⟨g_KEYWORDS, hK⟩ := T.vKEYWORDS
    refine ⟨_, pss_one (ps_ret (pe_and (pe_cmpR op_ne (pv 0) (pe_gs g_END) (nomark _)) (pe_and (pe_cmpR op_in_sign (pe_ix ix_str (pv 0) pe_int (fun _ _ => rfl)) (pe_gs g_LETTERS) (by rfl)) (pe_one (pe_cmpR op_notIn_seq (pv 0) (pe_gr g_KEYWORDS) (by rfl)))))), ?_⟩
    obtain ⟨w, rfl, hz, q⟩ := h
    have nl : (SX.S (nb w)).length = w.length := by rw [SX.S_len, nb, List.length_map]
    have fits : (SX.S (nb w)).length ≤ sizeLine := by rw [nl]; exact fits_of (by omega)
    refine ⟨_, rfl, rfl, _, rfl, ?_⟩
    have e0 : decide (V.str (SX.S (nb w)) = V.str (SX.S [])) = decide (w = []) := str_eq_nil w
    rw [e0]
    cases w with
    | nil =>
      refine iteF' (by decide) ?_
      exact q
    | cons b r =>
      refine iteT' (by simp) ?_
      refine ⟨_, rfl, _, 0, _, rfl, rfl, fits, atI_nat (j := 0) rfl, _, _, rfl, rfl, _, rfl, ?_⟩
      have e1 : decide (b.toNat ∈ (SX.S lettersN).cps.toList) = isLetter b := by
        rw [Bool.eq_iff_iff, decide_eq_true_iff, ← nat_letter]
      rw [e1]
      have en : wordIsName (b :: r) = (isLetter b && !VapcmBase.RESERVED.contains (b :: r)) := rfl
      rw [en] at q
      cases hl : isLetter b with
      | false =>
        rw [hl] at q
        exact q
      | true =>
        rw [hl, Bool.true_and] at q
        refine iteT ?_
        refine ⟨_, rfl, L.KEYWORDS, _, rfl, .inr (hK H), rfl, rfl, ?_⟩
        have e2 : inV (V.str (SX.S (nb (b :: r)))) [.str "axiom", .str "row", .str "goal"] = VapcmBase.RESERVED.contains (b :: r) := by
          have k1 : (Str.ofString "axiom") = SX.S (nb (VapcmBase.word "axiom")) := by decide +kernel
          have k2 : (Str.ofString "row") = SX.S (nb (VapcmBase.word "row")) := by decide +kernel
          have k3 : (Str.ofString "goal") = SX.S (nb (VapcmBase.word "goal")) := by decide +kernel
          show ((Str.ofString "axiom" == SX.S (nb (b :: r))) || ((Str.ofString "row" == SX.S (nb (b :: r))) || ((Str.ofString "goal" == SX.S (nb (b :: r))) || false))) = _
          rw [k1, k2, k3, nbS_eq, nbS_eq, nbS_eq]
          simp only [VapcmBase.RESERVED, List.map_cons, List.map_nil, List.contains_cons, List.contains_nil, Bool.or_false]
          rw [BEq.comm (a := b :: r) (b := VapcmBase.word "axiom"), BEq.comm (a := b :: r) (b := VapcmBase.word "row"), BEq.comm (a := b :: r) (b := VapcmBase.word "goal")]
        rw [if_pos rfl, e2]
        exact q
theorem cutS_word {d : Bytes} {p n : Nat} (h : p + n ≤ d.length) : cutS (SX.S (d.map cv)) (some (p : Int)) (some ((p + n : Nat) : Int)) = SX.S (((d.drop p).take n).map cv) := by
  unfold cutS
  rw [tx_len, HT.sIx_nat, HT.sIx_nat, Nat.min_eq_left (by omega), Nat.min_eq_left (by omega), Nat.add_sub_cancel_left]
  show SX.S (((d.map cv).drop p).take n) = _
  rw [← List.map_drop, ← List.map_take]
theorem cv_word {l : Bytes} (h : ∀ b ∈ l, isSig b = true ∨ isLetter b = true ∨ isDigit b = true) : l.map cv = nb l := List.map_congr_left fun b hb => (kinds b).2.2 (h b hb)
theorem inQ_al (b : UInt8) : inQ (lettersN ++ digitsN) b = isAl b := by
  unfold inQ
  rw [Bool.eq_iff_iff, decide_eq_true_iff, cv_al]
theorem inQ_dig (b : UInt8) : inQ digitsN b = isDigit b := by
  unfold inQ
  rw [Bool.eq_iff_iff, decide_eq_true_iff, cv_digit]
def sp_token_end (L : Lay) : Sp := fun vs H Q E => ∃ (d : Bytes) (p : Nat) (b : UInt8), vs = [txV d, iv p] ∧ d.length ≤ 10000 ∧ d[p]? = some b ∧ isBlank b = false ∧ (b == 35) = false ∧
  (∀ x, token (d.drop p) = some x → Q (iv (p + x.2)) H) ∧ (token (d.drop p) = none → FltE L E NoS H ⟨2, p⟩)
abbrev s_token_end : Stmt := top 39
theorem sc_token_end : FnScope ["text", "place", "end", "right"] ["text", "place"] (defScope s_token_end) := ⟨rfl, rfl, rfl, by decide +kernel, rfl, by decide +kernel, by decide +kernel⟩
theorem ok_token_end {f : Addr} {fd : FuncData} (F : Fun K "token_end" "token_end" s_token_end f fd) (T : Txt K mg L) (TF : PySem.FltX.FltTxt K mg L.Fault L.FaultI)
    (h_run_end : HasDef P w K mg base CX0 1 "run_end" ["text", "place", "allowed"] sp_run_end) (h_is_number : HasDef P w K mg base CX0 1 "is_number" ["digits"] sp_is_number) :
    FnOk P w K mg base (L2.CX P w) 3 f fd ["text", "place"] (sp_token_end L) := by
  refine F.okX sc_token_end (fun vs H Q E h => ?_) (fun cdv A outer s H vs Q E hr h => ?_)
  · obtain ⟨d, p, b, rfl, _⟩ := h
    rfl
  · obtain ⟨t1, g_SIGNS⟩ := T.vSIGNS
    obtain ⟨t2, g_LETTERS⟩ := T.vLETTERS
    obtain ⟨t3, g_DIGITS⟩ := T.vDIGITS
    obtain ⟨t4, g_LONGEST_NAME⟩ := T.vLONGEST_NAME
    obtain ⟨f_run_end, fd_run_end, m_run_end, k_run_end, b_run_end, G_run_end⟩ := h_run_end
    obtain ⟨f_is_number, fd_is_number, m_is_number, k_is_number, b_is_number, G_is_number⟩ := h_is_number
    refine ⟨_, pss_cons (ps_if (pt_cmpR op_in_sign (pe_ix ix_str (pv 0) (pv 1) (fun _ _ => rfl)) (pe_gs g_SIGNS) (by rfl))
        (pss_one (ps_ret (pe_op op_add (pv 1) pe_int)))
        (pss_nil))
      (pss_cons (ps_if (pt_cmpR op_in_sign (pe_ix ix_str (pv 0) (pv 1) (fun _ _ => rfl)) (pe_gs g_LETTERS) (by rfl))
        (pss_cons (ps_set (i := 2) sc_token_end.nd rfl (Or.inl rfl) (pe_call G_run_end (hr.mono (by decide)) rfl m_run_end k_run_end b_run_end .nil pass0 (pa_cons (pv 0) (pa_cons (pv 1) (pa_cons (pe_op op_add_str (pe_gs g_LETTERS) (pe_gs g_DIGITS)) pa_nil)))))
          (pss_one (ps_set (i := 3) sc_token_end.nd rfl (Or.inl rfl) (pe_cmpR op_le (pe_op op_sub (pv 2) (pv 1)) (pe_gi g_LONGEST_NAME) (nomark _)))))
        (pss_cons (ps_set (i := 2) sc_token_end.nd rfl (Or.inl rfl) (pe_call G_run_end (hr.mono (by decide)) rfl m_run_end k_run_end b_run_end .nil pass0 (pa_cons (pv 0) (pa_cons (pv 1) (pa_cons (pe_gs g_DIGITS) pa_nil)))))
          (pss_one (ps_set (i := 3) sc_token_end.nd rfl (Or.inl rfl) (pe_call G_is_number (hr.mono (by decide)) rfl m_is_number k_is_number b_is_number .nil pass0 (pa_cons (pe_slice sl_str (pv 0) (po_some (pv 1)) (po_some (pv 2))) pa_nil))))))
      (pss_cons (ps_if (pt_not (pt_val (pv 3)))
        (pss_one (ps_raiseFault rfl TF (hr.mono (by decide : 1 ≤ 2)) (takes_of rfl rfl rfl rfl) (pa_cons pe_int (pa_cons (pv 1) pa_nil))))
        (pss_nil))
      (pss_one (ps_ret (pv 2))))), ?_⟩
    obtain ⟨d, p, b, rfl, hz, hb, hbl, h35, kS, kN⟩ := h
    have fits : (SX.S (d.map cv)).length ≤ sizeLine := by rw [tx_len]; exact fits_of (by omega)
    have hp : p < d.length := (List.getElem?_eq_some_iff.mp hb).1
    have hdr := drop_get hb
    have e1 : decide (cv b ∈ (SX.S signsN).cps.toList) = isSig b := by rw [Bool.eq_iff_iff, decide_eq_true_iff, ← cv_sig]
    have e2 : decide (cv b ∈ (SX.S lettersN).cps.toList) = isLetter b := by rw [Bool.eq_iff_iff, decide_eq_true_iff, ← cv_letter]
    have bad : token (d.drop p) = none → ∀ (σ : L2.St), σ[1]? = some (some (iv p)) → tRaiseFault L.Fault (fun cls d _ H' => E cls d H') (tCons (tC (.int 2)) (tCons (tVar 1) tNil)) { nx := fun _ H' => Q .non H', rt := Q } σ H := fun hn σ hs =>
      ⟨_, hs, _, _, rfl, fun dx ndx => kN hn _ dx (fun c o z _ => by rw [upd_ne (ne_of_none z ndx)]; exact z) ndx upd_same⟩
    refine ⟨_, rfl, _, rfl, _, _, _, rfl, rfl, fits, tx_at hb, _, _, rfl, rfl, _, rfl, ?_⟩
    rw [e1]
    cases hs : isSig b with
    | true =>
      refine iteT' rfl ?_
      refine ⟨_, rfl, _, _, rfl, rfl, ?_⟩
      exact kS _ (by rw [hdr]; exact token_sig hs)
    | false =>
    refine iteF' rfl ?_
    refine ⟨_, rfl, _, rfl, _, _, _, rfl, rfl, fits, tx_at hb, _, _, rfl, rfl, _, rfl, ?_⟩
    rw [e2]
    cases hl : isLetter b with
    | true =>
      refine iteT' rfl ?_
      refine ⟨_, rfl, _, rfl, _, _, rfl, rfl, by decide, ?_⟩
      refine ⟨d, p, lettersN ++ digitsN, by rw [SX.S_cat]; rfl, hz, by omega, ?_⟩
      have er : runLen (inQ (lettersN ++ digitsN)) d p = ((d.drop p).takeWhile isAl).length := by
        unfold runLen
        rw [show inQ (lettersN ++ digitsN) = isAl from funext inQ_al]
      rw [er]
      have ht := token_letter (b := b) (r := d.drop (p + 1)) hl
      rw [← hdr] at ht
      refine ⟨_, rfl, _, rfl, _, _, rfl, rfl, _, _, rfl, rfl, ?_⟩
      have eb : decide (((p + ((d.drop p).takeWhile isAl).length : Nat) : Int) - (p : Int) ≤ 16) = decide (((d.drop p).takeWhile isAl).length ≤ 16) := by
        rw [Bool.eq_iff_iff, decide_eq_true_iff, decide_eq_true_iff]; omega
      refine ⟨_, rfl, _, rfl, ?_⟩
      rw [eb]
      by_cases c : ((d.drop p).takeWhile isAl).length ≤ 16
      · refine iteF' (by rw [decide_eq_true c]; rfl) ?_
        refine ⟨_, rfl, ?_⟩
        exact kS _ (by rw [ht, if_neg (by omega)])
      · refine iteT' (by rw [decide_eq_false c]; rfl) ?_
        exact bad (by rw [ht, if_pos (by omega)]) _ rfl
    | false =>
      refine iteF' rfl ?_
      refine ⟨_, rfl, _, rfl, d, p, digitsN, rfl, hz, by omega, ?_⟩
      have er : runLen (inQ digitsN) d p = ((d.drop p).takeWhile isDigit).length := by
        unfold runLen
        rw [show inQ digitsN = isDigit from funext inQ_dig]
      rw [er]
      have hle : p + ((d.drop p).takeWhile isDigit).length ≤ d.length := by
        have := runLen_le isDigit d p
        have e : runLen isDigit d p = ((d.drop p).takeWhile isDigit).length := rfl
        omega
      refine ⟨_, rfl, _, rfl, _, rfl, _, rfl, _, rfl, _, rfl, fits, ?_⟩
      rw [cutS_word hle]
      have etk : (d.drop p).take ((d.drop p).takeWhile isDigit).length = (d.drop p).takeWhile isDigit := take_runLen isDigit d p
      rw [etk]
      have hall : ∀ c ∈ (d.drop p).takeWhile isDigit, isDigit c = true := fun c hc => mem_tw hc
      rw [cv_word (fun c hc => .inr (.inr (hall c hc)))]
      refine ⟨_, rfl, by omega, hall, ?_⟩
      have ht : token (d.drop p) = if numOk ((d.drop p).takeWhile isDigit) = true then some (.num (VapcmBase.decimal ((d.drop p).takeWhile isDigit)), ((d.drop p).takeWhile isDigit).length) else none := by
        cases hd : isDigit b with
        | true =>
          have := token_digit (b := b) (r := d.drop (p + 1)) hd hl
          rw [← hdr] at this
          exact this
        | false =>
          have e0 : (d.drop p).takeWhile isDigit = [] := by rw [hdr, List.takeWhile_cons, hd]; rfl
          rw [e0]
          have := token_none (b := b) (r := d.drop (p + 1)) hs hl hd
          rw [← hdr] at this
          rw [this]
          rfl
      refine ⟨_, rfl, _, rfl, ?_⟩
      cases c : numOk ((d.drop p).takeWhile isDigit) with
      | true =>
        refine iteF' rfl ?_
        refine ⟨_, rfl, ?_⟩
        exact kS _ (by rw [ht, if_pos c])
      | false =>
        refine iteT' rfl ?_
        exact bad (by rw [ht, if_neg (by rw [c]; decide)]) _ rfl
end
end Dr

namespace Dr
open PySem PySem.Spec PyProof.Rows L2
open VapcmBase (Bytes isBlank isLetter isDigit token Fault)
/-- a loop over the signs of a text -/
theorem for_its {z : List Nat} {g : TG} {tb : TS} {D : Ends} {σ : L2.St} {H : Hp} (Pv : Nat → L2.St → Hp → Prop) (h0 : Pv 0 σ H)
    (hs : ∀ i c σ H, z[i]? = some c → Pv i σ H → g (.str (SX.S [c])) σ H fun σ2 H2 => tb { D with nx := Pv (i + 1), ct := Pv (i + 1), bk := D.nx } σ2 H2) (hd : ∀ σ H, Pv z.length σ H → D.nx σ H) :
    ∃ W : Nat → Nat → L2.St → Hp → Prop, (∃ m, W 0 m σ H) ∧ ∀ i m σ H, W i m σ H →
      ((Its (SX.S z)).stop i H ∧ D.nx σ H) ∨ ((Its (SX.S z)).go i H ∧ ∃ N : L2.St → Hp → Prop, (∀ σ' H', N σ' H' → ∃ m', m' < m ∧ W (i + 1) m' σ' H') ∧ ∀ v H', (Its (SX.S z)).yld i H v H' → g v σ H' fun σ2 H2 => tb { D with nx := N, ct := N, bk := D.nx } σ2 H2) := by
  refine ⟨fun i m σ H => m = z.length - i ∧ i ≤ z.length ∧ Pv i σ H, ⟨z.length, rfl, Nat.zero_le _, h0⟩, ?_⟩
  rintro i m σ H ⟨rfl, hi, p⟩
  by_cases hlt : i < z.length
  · refine .inr ⟨by show i < z.toArray.size; simpa using hlt, Pv (i + 1), fun σ' H' p' => ⟨z.length - (i + 1), by omega, rfl, hlt, p'⟩, fun v H' y => ?_⟩
    obtain ⟨rfl, c, hc, rfl⟩ := y
    exact hs i c σ H' (by simpa using hc) p
  · have e : i = z.length := by omega
    subst e
    exact .inl ⟨by show z.toArray.size ≤ z.length; simp, hd σ H p⟩
def charK (l : List Nat) : List (Key × V) := l.map fun (c : Nat) => (Sum.inl (c : Int), V.str (SX.S [c]))
theorem charK_none {l : List Nat} {c : Nat} (h : c ∉ l) : valV (charK l) (Sum.inl (c : Int)) = none := by
  induction l with
  | nil => rfl
  | cons a l ih =>
    simp only [List.mem_cons, not_or] at h
    show valV ((Sum.inl (a : Int), V.str (SX.S [a])) :: charK l) _ = _
    rw [valV_neg (by
      intro z
      have := Sum.inl.inj z
      omega)]
    exact ih h.2
theorem charK_some {l : List Nat} {c : Nat} (h : c ∈ l) : valV (charK l) (Sum.inl (c : Int)) = some (.str (SX.S [c])) := by
  induction l with
  | nil => cases h
  | cons a l ih =>
    show valV ((Sum.inl (a : Int), V.str (SX.S [a])) :: charK l) _ = _
    by_cases e : a = c
    · subst e; exact valV_pos rfl
    · rw [valV_neg (by
        intro z
        have := Sum.inl.inj z
        omega)]
      rcases List.mem_cons.mp h with h | h
      · exact absurd h.symm e
      · exact ih h
theorem known_nodup : knownN.Nodup := by decide +kernel
theorem known_len : knownN.length = 73 := by decide +kernel
section
variable {P : Program} {w : World} {K : PySem.W.Frag} {mg : Str → Option Value} {base : Heap} {L : Lay}
def sp_characters (K : PySem.W.Frag) : Sp := fun vs H Q _ => ∃ (a : Addr) (d : Bytes), vs = [.ref a] ∧ SqL K H a (d.map fun b => iv b.toNat) ∧ d.length ≤ 10000 ∧ ∀ H', Same H H' → Q (txV d) H'
abbrev s_characters : Stmt := top 35
theorem sc_characters : FnScope ["data", "known", "character", "byte"] ["data"] (defScope s_characters) := ⟨rfl, rfl, rfl, by decide +kernel, rfl, by decide +kernel, by decide +kernel⟩
theorem ok_characters {f : Addr} {fd : FuncData} (F : Fun K "characters" "characters" s_characters f fd) (T : Txt K mg L) : FnOk P w K mg base CX0 1 f fd ["data"] (sp_characters K) := by
  refine F.ok sc_characters (fun vs H Q E h => ?_) (fun cdv A outer s H vs Q E hr h => ?_)
  · obtain ⟨a, d, rfl, _⟩ := h
    rfl
  · obtain ⟨t1, g_SIGNS⟩ := T.vSIGNS
    obtain ⟨t2, g_LETTERS⟩ := T.vLETTERS
    obtain ⟨t3, g_DIGITS⟩ := T.vDIGITS
    obtain ⟨t4, g_BLANKS⟩ := T.vBLANKS
    obtain ⟨t5, g_REMARK⟩ := T.vREMARK
    obtain ⟨t6, g_STRANGE⟩ := T.vSTRANGE
    have n_ord := T.n_ord
    have hu := hu_of hr
    refine ⟨_, pss_cons (ps_set (i := 1) sc_characters.nd rfl (Or.inr rfl) pe_dnewK)
      (pss_cons (ps_for PassesOwn.never rfl (pi_str (pe_op op_add_str (pe_op op_add_str (pe_op op_add_str (pe_op op_add_str (pe_gs g_BLANKS) (pe_gs g_REMARK)) (pe_gs g_SIGNS)) (pe_gs g_DIGITS)) (pe_gs g_LETTERS))) (pg_name (i := 2) sc_characters.nd rfl (Or.inl rfl))
        (pss_one (ps_dput hu (pv 1) (pe_callB call_ord (by rfl) n_ord (by decide +kernel) (pa_cons (pv 2) pa_nil)) (pv 2) rfl)))
      (pss_one (ps_ret (pe_join pe_str (pe_lc (own := [("byte", 3)]) (g := gName 3) (tt := tYes) rfl sc_characters.nd (pi_list (pv 0)) (blkOk_by (own := [("byte", 3)]) (N := ["data", "known", "character", "byte"]) (sc := defScope s_characters) (by decide +kernel)) (fun _ _ _ _ _ => pg_name (i := 3) sc_characters.nd rfl (Or.inl rfl)) (fun _ _ _ _ _ => pts_nil)
        (fun _ _ _ _ _ => pe_dget2 hu (pv 1) (pv 3) (pe_gs g_STRANGE) ⟨rfl, rfl, rfl, rfl⟩)))))), ?_⟩
    obtain ⟨a, d, rfl, hs, hz, k⟩ := h
    intro q nq
    have hq0 : upd H q (.dK []) q = some (.dK []) := upd_same
    have s0 : Same H (upd H q (.dK [])) := same_new nq
    have eK : SX.S blanksN ++ SX.S [35] ++ SX.S signsN ++ SX.S digitsN ++ SX.S lettersN = SX.S knownN := by
      rw [SX.S_cat, SX.S_cat, SX.S_cat, SX.S_cat]; rfl
    refine ⟨_, _, rfl, rfl, by decide, _, _, rfl, rfl, by decide, _, _, rfl, rfl, by decide, _, _, rfl, rfl, by decide, _, rfl, ?_⟩
    rw [eK]
    refine for_its (fun i σ H' => ∃ v2 : Option V, σ = [some (.ref a), some (.ref q), v2, none] ∧ Same H H' ∧ H' q = some (.dK (charK (knownN.take i)))) ⟨none, rfl, s0, hq0⟩ ?_ ?_
    · rintro i c σ H' hc ⟨v2, rfl, s5, hd⟩
      have hcl : c ∉ knownN.take i := fun hm => by
        obtain ⟨j, hj, e⟩ := List.getElem_of_mem hm
        rw [List.length_take] at hj
        rw [List.getElem_take] at e
        obtain ⟨hi, e2⟩ := List.getElem?_eq_some_iff.mp hc
        have := (List.getElem_inj known_nodup).mp (e.trans e2.symm)
        omega
      have hil : i < 73 := by
        have := (List.getElem?_eq_some_iff.mp hc).1
        rw [known_len] at this
        exact this
      refine ⟨_, rfl, _, rfl, _, rfl, _, rfl, rfl, q, _, rfl, DPut.k (k := Sum.inl (c : Int)) hd ?_, ?_⟩
      · rw [charK, List.length_map, List.length_take]; exact fitslt_of (by omega)
      · rw [putK_new _ (charK_none hcl)]
        refine ⟨_, rfl, fun b o z => by rw [upd_ne (ne_of_none z nq)]; exact s5 b o z, ?_⟩
        rw [upd_same, take_succ' hc]
        simp [charK]
    · rintro σ H' ⟨v2, rfl, s5, hd⟩
      rw [List.take_length] at hd
      refine ⟨⟨_, rfl⟩, _, rfl, a, rfl, ⟨_, s5.seq hs⟩, fun D nD => ?_⟩
      have nqD : q ≠ D := ne_of_none hd nD
      have dD : H D = none := s5.free nD
      refine lc_list (K := K) (a := a) (xs := d.map fun b => iv b.toNat) (fun i H2 => Same H H2 ∧ H2 q = some (.dK (charK knownN)) ∧ H2 D = some (.lst (((d.take i).map fun b => SX.S [cv b]).map V.str)))
        ⟨s5.trans (same_new nD), by rw [upd_ne nqD]; exact hd, upd_same⟩ (fun i H2 _ ⟨s6, _⟩ => s6.seq hs) ?_ ?_
      · rintro i x H2 hx ⟨s6, hq2, hD2⟩
        obtain ⟨b, hb, rfl⟩ := get_map hx
        have hil : i < d.length := (List.getElem?_eq_some_iff.mp hb).1
        refine ⟨rfl, _, rfl, q, rfl, .inl ⟨_, .inl hq2⟩, _, rfl, valV (charK knownN) (Sum.inl (b.toNat : Int)), DGet.k (k := Sum.inl (b.toNat : Int)) hq2, ?_⟩
        have ev : (valV (charK knownN) (Sum.inl (b.toNat : Int))).getD (.str (SX.S [63])) = .str (SX.S [cv b]) := by
          unfold cv
          by_cases c : b.toNat ∈ knownN
          · rw [if_pos c, charK_some c]; rfl
          · rw [if_neg c, charK_none c]; rfl
        rw [ev]
        refine ⟨_, hD2, by simp; exact fitslt_of (by omega), fun c o z => ?_, ?_, ?_⟩
        · rw [upd_ne (ne_of_none z dD)]; exact s6 c o z
        · rw [upd_ne nqD]; exact hq2
        · rw [upd_same, take_succ' hb]
          simp
      · rintro H2 ⟨s6, hq2, hD2⟩
        rw [List.length_map, List.take_length] at hD2
        refine ⟨Str.empty, D, _, rfl, rfl, .inl (SqL.of hD2), ?_, ?_⟩
        · have : (Str.empty : Str).length = 0 := by decide
          rw [this]
          have : ∀ l : Bytes, (((l.map fun b => SX.S [cv b]).map (·.length)).sum) = l.length := by
            intro l
            induction l with
            | nil => rfl
            | cons x l ih => rw [List.map_cons, List.map_cons, List.sum_cons, ih, SX.S_len, List.length_cons, List.length_cons]; simp; omega
          rw [this]
          omega
        · have ej : Txt.join Str.empty (d.map fun b => SX.S [cv b]) = SX.S (d.map cv) := by
            have h1 := SX.join_S [] (d.map fun b => [cv b])
            rw [joinL_nil, List.map_map] at h1
            have h2 : (d.map fun b => [cv b]).flatten = d.map cv := by
              have : ∀ l : Bytes, (l.map fun b => [cv b]).flatten = l.map cv := by
                intro l
                induction l with
                | nil => rfl
                | cons x l ih => rw [List.map_cons, List.flatten_cons, ih]; rfl
              exact this d
            rw [h2] at h1
            exact h1
          rw [ej]
          exact k H2 s6
end
end Dr

namespace Dr
open PySem PySem.Spec PyProof.Rows L2
open VapcmBase (Bytes isBlank isLetter isDigit token Fault PTok Toks)
theorem take_len {l : Bytes} {q : UInt8 → Bool} : l.take (l.takeWhile q).length = l.takeWhile q := by
  have := List.takeWhile_prefix q (l := l)
  exact (List.prefix_iff_eq_take.mp this).symm
theorem token_word {b : UInt8} {r : Bytes} {x : VapcmBase.Tok × Nat} (h : token (b :: r) = some x) (p : Nat) :
    (∀ c ∈ (b :: r).take x.2, isSig c = true ∨ isLetter c = true ∨ isDigit c = true) ∧ TR ((b :: r).take x.2, p) ⟨p, x.1⟩ ∧ x.2 ≤ (b :: r).length ∧ 1 ≤ x.2 ∧ ∀ n, x.1 = .name n → n.length ≤ 16 := by
  have h1 := token_pos h
  cases hl : isLetter b with
  | true =>
    rw [token_letter hl] at h
    by_cases c : 16 < ((b :: r).takeWhile isAl).length
    · rw [if_pos c] at h; cases h
    · rw [if_neg c] at h
      cases h
      have e : (b :: r).takeWhile isAl = b :: r.takeWhile isAl := by
        rw [List.takeWhile_cons, show isAl b = true by simp [isAl, hl]]; rfl
      refine ⟨fun y hy => ?_, ⟨rfl, ?_⟩, ?_, h1, fun n hn => ?_⟩
      · rw [take_len] at hy
        have := mem_tw hy
        simp only [isAl, Bool.or_eq_true] at this
        exact .inr this
      · refine ⟨?_, b, r.takeWhile isAl, e, hl⟩
        show (b :: r).take _ = _
        rw [take_len]
      · have := runLen_le isAl (b :: r) 0
        exact this
      · cases hn
        omega
  | false =>
    cases hd : isDigit b with
    | true =>
      rw [token_digit hd hl] at h
      by_cases c : numOk ((b :: r).takeWhile isDigit) = true
      · rw [if_pos c] at h
        cases h
        have e : (b :: r).takeWhile isDigit = b :: r.takeWhile isDigit := by
          rw [List.takeWhile_cons, hd]; rfl
        refine ⟨fun y hy => ?_, ⟨rfl, ?_⟩, ?_, h1, fun n hn => by cases hn⟩
        · rw [take_len] at hy
          exact .inr (.inr (mem_tw hy))
        · refine ⟨b, r.takeWhile isDigit, ?_, hd⟩
          show (b :: r).take _ = _
          rw [take_len, e]
        · have := runLen_le isDigit (b :: r) 0
          exact this
      · rw [if_neg c] at h; cases h
    | false =>
      cases hs : isSig b with
      | true =>
        rw [token_sig hs] at h
        cases h
        refine ⟨fun y hy => ?_, ⟨rfl, b, rfl, rfl, hs⟩, by simp, h1, fun n hn => by cases hn⟩
        simp only [List.take_succ_cons, List.take_zero, List.mem_singleton] at hy
        rw [hy]
        exact .inl hs
      | false =>
        rw [token_none hs hl hd] at h
        cases h
/-- the tokens as they lie -/
inductive WordsIs (H : Hp) : List Word → List V → Prop
  | nil : WordsIs H [] []
  | cons {p : Word} {q : Addr} {ps : List Word} {vs : List V} (h : H q = some (.tup [.str (SX.S (nb p.1)), iv p.2])) (r : WordsIs H ps vs) : WordsIs H (p :: ps) (.ref q :: vs)
theorem WordsIs.same {H H' : Hp} (e : ∀ b xs, H b = some (.tup xs) → H' b = some (.tup xs)) {ps : List Word} {vs : List V} (h : WordsIs H ps vs) : WordsIs H' ps vs := by
  induction h with
  | nil => exact .nil
  | cons h _ ih => exact .cons (e _ _ h) ih
theorem WordsIs.length {H : Hp} {ps : List Word} {vs : List V} (h : WordsIs H ps vs) : vs.length = ps.length := by
  induction h with
  | nil => rfl
  | cons h _ ih => simp [ih]
theorem WordsIs.snoc {H : Hp} {ps : List Word} {vs : List V} (h : WordsIs H ps vs) {p : Word} {q : Addr} (hq : H q = some (.tup [.str (SX.S (nb p.1)), iv p.2])) : WordsIs H (ps ++ [p]) (vs ++ [.ref q]) := by
  induction h with
  | nil => exact .cons hq .nil
  | cons h _ ih => exact .cons h ih
theorem WordsIs.get {H : Hp} {ps : List Word} {vs : List V} (h : WordsIs H ps vs) : ∀ {i : Nat} {p : Word}, ps[i]? = some p → ∃ q, vs[i]? = some (.ref q) ∧ H q = some (.tup [.str (SX.S (nb p.1)), iv p.2]) := by
  induction h with
  | nil => intro i p e; simp at e
  | @cons p q ps vs h _ ih =>
    intro i p' e
    cases i with
    | zero =>
      simp only [List.getElem?_cons_zero, Option.some.injEq] at e
      subst e
      exact ⟨q, rfl, h⟩
    | succ i =>
      simp only [List.getElem?_cons_succ] at e
      obtain ⟨q', h1, h2⟩ := ih e
      exact ⟨q', h1, h2⟩
def ShortT (l : Toks) : Prop := ∀ t ∈ l, ∀ n, t.tok = .name n → n.length ≤ 16
section
variable {P : Program} {w : World} {K : PySem.W.Frag} {mg : Str → Option Value} {base : Heap} {L : Lay}
def sp_all_tokens (K : PySem.W.Frag) (L : Lay) : Sp := fun vs H Q E => ∃ (a : Addr) (d : Bytes), vs = [.ref a] ∧ SqL K H a (d.map fun b => iv b.toNat) ∧ d.length ≤ 10000 ∧
  (∀ toks, lexAt d 0 = .ok toks → ∀ H' p ws us, Same H H' → H p = none → H' p = some (.lst us) → WordsIs H' ws us → TRs ws toks → EndsL toks → ShortT toks → (∀ x ∈ ws, x.1.length ≤ 10000) → toks.length ≤ 10001 → Q (.ref p) H') ∧
  (∀ f, lexAt d 0 = .error f → FltE L E NoS H f)
abbrev s_all_tokens : Stmt := top 36
theorem sc_all_tokens : FnScope ["data", "text", "found", "place", "end"] ["data"] (defScope s_all_tokens) := ⟨rfl, rfl, rfl, by decide +kernel, rfl, by decide +kernel, by decide +kernel⟩
theorem ok_all_tokens {f : Addr} {fd : FuncData} (F : Fun K "all_tokens" "all_tokens" s_all_tokens f fd) (T : Txt K mg L)
    (h_characters : HasDef P w K mg base CX0 1 "characters" ["data"] (sp_characters K)) (h_after_blanks : HasDef P w K mg base CX0 2 "after_blanks" ["text", "place"] sp_after_blanks)
    (h_token_end : HasDef P w K mg base (L2.CX P w) 3 "token_end" ["text", "place"] (sp_token_end L)) :
    FnOk P w K mg base (L2.CX P w) 4 f fd ["data"] (sp_all_tokens K L) := by
  refine F.okX sc_all_tokens (fun vs H Q E h => ?_) (fun cdv A outer s H vs Q E hr h => ?_)
  · obtain ⟨a, d, rfl, _⟩ := h
    rfl
  · obtain ⟨t1, g_END⟩ := T.vEND
    have n_len := T.n_len
    obtain ⟨f_characters, fd_characters, m_characters, k_characters, b_characters, G_characters⟩ := h_characters
    obtain ⟨f_after_blanks, fd_after_blanks, m_after_blanks, k_after_blanks, b_after_blanks, G_after_blanks⟩ := h_after_blanks
    obtain ⟨f_token_end, fd_token_end, m_token_end, k_token_end, b_token_end, G_token_end⟩ := h_token_end
    refine ⟨_, pss_cons (ps_set (i := 1) sc_all_tokens.nd rfl (Or.inl rfl) (pe_call G_characters (hr.mono (by decide)) rfl m_characters k_characters b_characters .nil pass0 (pa_cons (pv 0) pa_nil)))
      (pss_cons (ps_set (i := 2) sc_all_tokens.nd rfl (Or.inl rfl) (pe_lst pa_nil))
      (pss_cons (ps_set (i := 3) sc_all_tokens.nd rfl (Or.inl rfl) (pe_call G_after_blanks (hr.mono (by decide)) rfl m_after_blanks k_after_blanks b_after_blanks .nil pass0 (pa_cons (pv 1) (pa_cons pe_int pa_nil))))
      (pss_cons (ps_while (passes_of rfl) (pt_cmpR op_lt (pv 3) (pe_callB call_len_str (by rfl) n_len PySem.boot_len (pa_cons (pv 1) pa_nil)) (nomark _))
        (pss_cons (ps_set (i := 4) sc_all_tokens.nd rfl (Or.inl rfl) (pe_call G_token_end (hr.mono (by decide)) rfl m_token_end k_token_end b_token_end .nil (passes_call (takes_of rfl rfl rfl rfl) (fun _ _ _ _ z => z)) (pa_cons (pv 1) (pa_cons (pv 3) pa_nil))))
          (pss_cons (ps_expr (pe_bm PySem.F.plainAttrs_list PySem.F.slot_list_append PySem.F.type_list_append mt_append (pv 2) (pa_cons (pe_tup (pa_cons (pe_slice sl_str (pv 1) (po_some (pv 3)) (po_some (pv 4))) (pa_cons (pv 3) pa_nil))) pa_nil)))
          (pss_one (ps_set (i := 3) sc_all_tokens.nd rfl (Or.inl rfl) (pe_call G_after_blanks (hr.mono (by decide)) rfl m_after_blanks k_after_blanks b_after_blanks .nil pass0 (pa_cons (pv 1) (pa_cons (pv 4) pa_nil))))))))
      (pss_cons (ps_expr (pe_bm PySem.F.plainAttrs_list PySem.F.slot_list_append PySem.F.type_list_append mt_append (pv 2) (pa_cons (pe_tup (pa_cons (pe_gs g_END) (pa_cons (pv 3) pa_nil))) pa_nil)))
      (pss_one (ps_ret (pv 2))))))), ?_⟩
    obtain ⟨a, d, rfl, hs, hz, kS, kE⟩ := h
    refine ⟨_, rfl, a, d, rfl, hs, hz, fun H1 s1 => ?_⟩
    refine ⟨(by decide), fun q nq => ?_⟩
    have fq : H q = none := s1.free nq
    refine ⟨_, rfl, d, 0, rfl, hz, Nat.zero_le _, fun p0 hp0 hp1 hlex hbl => ?_⟩
    have fits : (SX.S (d.map cv)).length ≤ sizeLine := by rw [tx_len]; exact fits_of (by omega)
    refine ⟨fun m σ H' => ∃ (p : Nat) (ws : List Word) (done : Toks) (us : List V) (v4 : Option V), σ = [some (.ref a), some (txV d), some (.ref q), some (iv p), v4] ∧ Same H H' ∧ H' q = some (.lst us) ∧ WordsIs H' ws us ∧ TRs ws done ∧ ShortT done ∧ (∀ x ∈ ws, x.1.length ≤ 10000) ∧ ws.length ≤ p ∧ p ≤ d.length ∧
      (∀ b, d[p]? = some b → isBlank b = false ∧ (b == 35) = false) ∧ lexAt d 0 = (lexAt d p).map (fun l => done ++ l) ∧ m = d.length - p,
      ⟨_, p0, [], [], [], none, rfl, s1.trans (same_new nq), upd_same, .nil, .nil, (fun t ht => absurd ht (by simp)), (fun x hx => absurd hx (by simp)), Nat.zero_le _, hp1, hbl, ?_, rfl⟩, ?_⟩
    · rw [hlex]
      cases lexAt d p0 <;> rfl
    rintro m σ H' ⟨p, ws, done, us, v4, rfl, s5, hq, hW, hT, hS, hL, hl1, hp, hb, hx, rfl⟩
    have eu : us.length = ws.length := hW.length
    refine ⟨_, rfl, _, rfl, _, rfl, fits, _, _, rfl, rfl, _, rfl, ?_⟩
    rw [tx_len]
    refine ite2 (fun c => ?_) (fun c => ?_)
    · have c : p < d.length := by have := of_decide_eq_true c; omega
      obtain ⟨b, hb1⟩ := at_lt c
      obtain ⟨hb2, hb3⟩ := hb b hb1
      have hlt := lexAt_tok hb1 hb2 hb3
      refine ⟨fun σ' H2 => ∃ m', m' < d.length - p ∧ ∃ (p : Nat) (ws : List Word) (done : Toks) (us : List V) (v4 : Option V), σ' = [some (.ref a), some (txV d), some (.ref q), some (iv p), v4] ∧ Same H H2 ∧ H2 q = some (.lst us) ∧ WordsIs H2 ws us ∧ TRs ws done ∧ ShortT done ∧ (∀ x ∈ ws, x.1.length ≤ 10000) ∧ ws.length ≤ p ∧ p ≤ d.length ∧
        (∀ b, d[p]? = some b → isBlank b = false ∧ (b == 35) = false) ∧ lexAt d 0 = (lexAt d p).map (fun l => done ++ l) ∧ m' = d.length - p, fun _ _ z => z, ?_⟩
      refine ⟨_, rfl, _, rfl, d, p, b, rfl, hz, hb1, hb2, hb3, fun x hx1 => ?_, fun hn => ?_⟩
      · have hdr := drop_get hb1
        have hx2 := hx1
        rw [hdr] at hx2
        obtain ⟨w1, w2, w3, w4, w5⟩ := token_word hx2 p
        rw [← hdr] at w1 w2 w3
        have w3' : p + x.2 ≤ d.length := by rw [List.length_drop] at w3; omega
        refine ⟨_, rfl, .inl ⟨rfl, _, SqL.of hq⟩, _, rfl, _, rfl, _, rfl, _, rfl, _, rfl, _, rfl, fits, _, rfl, (by show 2 ≤ sizeLine; decide), fun t nt => ?_⟩
        rw [cutS_word w3', cv_word w1]
        have nqt : q ≠ t := ne_of_none hq nt
        have s6 : Same H' (upd H' t (.tup [.str (SX.S (nb ((d.drop p).take x.2))), iv p])) := same_new nt
        refine ⟨q, _, _, rfl, rfl, s6 _ _ hq, by rw [eu]; exact fitslt_of (by omega), ?_⟩
        refine ⟨_, rfl, _, rfl, d, p + x.2, rfl, hz, w3', fun p1 hp1 hp2 hlx hbl1 => ?_⟩
        have tk : ∀ c xs, H' c = some (.tup xs) → upd (upd H' t (.tup [.str (SX.S (nb ((d.drop p).take x.2))), iv p])) q (.lst (us ++ [.ref t])) c = some (.tup xs) := fun c xs z => by
          rw [upd_ne (ne_of z hq (by intro z; cases z))]
          exact s6 _ _ z
        refine ⟨d.length - p1, by omega, p1, ws ++ [((d.drop p).take x.2, p)], done ++ [⟨p, x.1⟩], us ++ [.ref t], _, rfl, fun c o z => ?_, upd_same, (hW.same tk).snoc ?_, hT.append (.cons w2 .nil), ?_, ?_, ?_, hp2, hbl1, ?_, rfl⟩
        · rw [upd_ne (ne_of_none z fq)]
          exact s6 _ _ (s5 c o z)
        · rw [upd_ne (Ne.symm nqt), upd_same]
        · intro t' ht' n hn
          rcases List.mem_append.mp ht' with h | h
          · exact hS t' h n hn
          · rw [List.mem_singleton.mp h] at hn
            exact w5 n hn
        · intro y hy
          rcases List.mem_append.mp hy with h | h
          · exact hL y h
          · rw [List.mem_singleton.mp h, List.length_take, List.length_drop]
            omega
        · simp only [List.length_append, List.length_cons, List.length_nil]
          omega
        · rw [hx, hlt, hx1]
          simp only
          rw [hlx]
          cases lexAt d p1 with
          | error e => rfl
          | ok l => simp [Except.map]
      · refine fun H2 dx h1 h2 h3 => kE ⟨2, p⟩ ?_ H2 dx (fun c o z n => h1 c o (s5 c o z) n) (s5.free h2) h3
        rw [hx, hlt, hn]
        rfl
    · have c : p = d.length := by
        rcases Nat.lt_or_ge p d.length with h | h
        · exact absurd (decide_eq_true (by omega)) c
        · omega
      have hlx := lexAt_end d c
      refine ⟨_, rfl, .inl ⟨rfl, _, SqL.of hq⟩, _, rfl, (by show 2 ≤ sizeLine; decide), fun t nt => ?_⟩
      have nqt : q ≠ t := ne_of_none hq nt
      have s6 : Same H' (upd H' t (.tup [.str (SX.S []), iv p])) := same_new nt
      refine ⟨q, _, _, rfl, rfl, s6 _ _ hq, by rw [eu]; exact fitslt_of (by omega), ?_⟩
      refine ⟨_, rfl, ?_⟩
      have tk : ∀ c xs, H' c = some (.tup xs) → upd (upd H' t (.tup [.str (SX.S []), iv p])) q (.lst (us ++ [.ref t])) c = some (.tup xs) := fun c xs z => by
        rw [upd_ne (ne_of z hq (by intro z; cases z))]
        exact s6 _ _ z
      refine kS (done ++ [⟨p, .last⟩]) ?_ _ q (ws ++ [([], p)]) (us ++ [.ref t]) (fun c o z => ?_) fq upd_same ((hW.same tk).snoc ?_) (hT.append (.cons ⟨rfl, rfl⟩ .nil)) ⟨done, p, rfl⟩ ?_ ?_ ?_
      · rw [hx, hlx]
        rfl
      · rw [upd_ne (ne_of_none z fq)]
        exact s6 _ _ (s5 c o z)
      · rw [upd_ne (Ne.symm nqt), upd_same]
        rfl
      · intro t' ht' n hn
        rcases List.mem_append.mp ht' with h | h
        · exact hS t' h n hn
        · rw [List.mem_singleton.mp h] at hn
          cases hn
      · intro y hy
        rcases List.mem_append.mp hy with h | h
        · exact hL y h
        · rw [List.mem_singleton.mp h]
          exact Nat.zero_le _
      · rw [List.length_append, ← hT.length]
        simp only [List.length_cons, List.length_nil]
        omega
end
end Dr

namespace Dr
open PySem PySem.Spec PyProof.Rows L2
open VapcmBase (Bytes isBlank isLetter isDigit token Fault PTok Toks tokEq taken takeName next here PName)
/-! ## cursors.py -/
def curF (t : Addr) (n : Nat) : List (Str × V) := [("tokens", .ref t), ("at", iv n)]
theorem cur_tokens (t : Addr) (n : Nat) : (curF t n).lookup ("tokens" : Str) = some (.ref t) := lk_here
theorem cur_at (t : Addr) (n : Nat) : (curF t n).lookup ("at" : Str) = some (iv n) := (lk_past (by decide +kernel)).trans lk_here
theorem cur_none (t : Addr) (n : Nat) {m : Str} (h1 : (m == ("tokens" : Str)) = false) (h2 : (m == ("at" : Str)) = false) : (curF t n).lookup m = none := (lk_past h1).trans ((lk_past h2).trans rfl)
theorem cur_put (t : Addr) (n m : Nat) : putF "at" (iv m) (curF t n) = curF t m := (put_past (by decide +kernel)).trans (congrArg _ put_here)
theorem cur_init (t : Addr) : putF "at" (V.int 0) (putF "tokens" (.ref t) []) = curF t 0 := by
  have e1 : putF ("tokens" : Str) (V.ref t) [] = [(("tokens" : Str), V.ref t)] := rfl
  rw [e1]
  exact (put_past (by decide +kernel)).trans rfl
structure CAd where
  a : Addr
  dx : Addr
  ta : Addr
def CurAt (H : Hp) (L : Lay) (c : CAd) (l : Toks) : Prop :=
  ∃ (n : Nat) (ws : List Word) (A : Toks) (us : List V), H c.a = some (.ins L.Cursor c.dx (curF c.ta n)) ∧ H c.ta = some (.lst us) ∧ WordsIs H ws us ∧ TRs ws A ∧ l = A.drop n ∧ ∀ x ∈ ws, x.1.length ≤ 10000
theorem CurAt.mono {H H' : Hp} {L : Lay} {c : CAd} {l : Toks} (k : CurAt H L c l) (e : ∀ b o, H b = some o → (∃ xs, o = .tup xs) ∨ b = c.a ∨ b = c.ta → H' b = some o) : CurAt H' L c l := by
  obtain ⟨n, ws, A, us, h1, h2, h3, h4, h5, h6⟩ := k
  exact ⟨n, ws, A, us, e _ _ h1 (.inr (.inl rfl)), e _ _ h2 (.inr (.inr rfl)), h3.same fun b xs z => e _ _ z (.inl ⟨_, rfl⟩), h4, h5, h6⟩
theorem CurAt.same {H H' : Hp} {L : Lay} {c : CAd} {l : Toks} (k : CurAt H L c l) (e : Same H H') : CurAt H' L c l := k.mono fun b o z _ => e b o z
abbrev CS (c : CAd) : Addr → Prop := fun b => b = c.a
/-- the token at hand -/
theorem CurAt.word {H : Hp} {L : Lay} {c : CAd} {t : PTok} {r : Toks} (k : CurAt H L c (t :: r)) : ∃ (n : Nat) (us : List V) (q : Addr) (x : Word), H c.a = some (.ins L.Cursor c.dx (curF c.ta n)) ∧ H c.ta = some (.lst us) ∧ atI us (n : Int) = some (.ref q) ∧ H q = some (.tup [.str (SX.S (nb x.1)), iv x.2]) ∧ TR x t ∧ x.1.length ≤ 10000 ∧
    ∀ H', H' c.a = some (.ins L.Cursor c.dx (curF c.ta (n + 1))) → (∀ b o, H b = some o → b ≠ c.a → H' b = some o) → CurAt H' L c r := by
  obtain ⟨n, ws, A, us, h1, h2, h3, h4, h5, h6⟩ := k
  have e1 : A[n]? = some t := by
    have := congrArg (fun l : Toks => l[0]?) h5
    simp only [List.getElem?_cons_zero, List.getElem?_drop, Nat.add_zero] at this
    exact this.symm
  obtain ⟨x, hx, hT⟩ := h4.get e1
  obtain ⟨q, hq, hQ⟩ := h3.get hx
  refine ⟨n, us, q, x, h1, h2, atI_nat hq, hQ, hT, h6 x (List.mem_of_getElem? hx), fun H' g1 g2 => ⟨n + 1, ws, A, us, g1, g2 _ _ h2 ?_, h3.same fun b xs z => g2 _ _ z ?_, h4, ?_, h6⟩⟩
  · exact ne_of h2 h1 (by intro z; cases z)
  · exact ne_of z h1 (by intro z; cases z)
  · rw [← List.drop_drop, ← h5]
    rfl
section
variable {P : Program} {w : World} {K : PySem.W.Frag} {mg : Str → Option Value} {base : Heap} {L : Lay}
def sp_Cursor_init (L : Lay) : Sp := fun vs H Q _ => ∃ (p dx q : Addr) (ws : List Word) (A : Toks) (us : List V), vs = [.ref p, .ref q] ∧ H p = some (.ins L.Cursor dx []) ∧ H q = some (.lst us) ∧ WordsIs H ws us ∧ TRs ws A ∧ (∀ x ∈ ws, x.1.length ≤ 10000) ∧
  ∀ (H' : Hp), CurAt H' L ⟨p, dx, q⟩ A → (∀ b o, H b = some o → b ≠ p → H' b = some o) → Q .non H'
abbrev s_Cursor_init : Stmt := inClass (top 44) 0
theorem sc_Cursor_init : FnScope ["self", "tokens"] ["self", "tokens"] (defScope s_Cursor_init) := ⟨rfl, rfl, rfl, by decide +kernel, rfl, by decide +kernel, by decide +kernel⟩
theorem ok_Cursor_init {f : Addr} {fd : FuncData} (F : Fun K "__init__" "Cursor.__init__" s_Cursor_init f fd) (T : Txt K mg L) : FnOk P w K mg base CX0 1 f fd ["self", "tokens"] (sp_Cursor_init L) := by
  refine F.ok sc_Cursor_init (fun vs H Q E h => ?_) (fun cdv A outer s H vs Q E hr h => ?_)
  · obtain ⟨p, dx, q, ws, A, us, rfl, _⟩ := h
    rfl
  · refine ⟨_, pss_cons (ps_fld (pv 0) (pv 1) rfl) (pss_one (ps_fld (pv 0) pe_int rfl)), ?_⟩
    obtain ⟨p, dx, q, ws, A, us, rfl, hp, hq, hW, hT, hL, k⟩ := h
    refine ⟨_, rfl, _, rfl, p, L.Cursor, dx, _, rfl, hp, T.cCursor, T.nCursor_tokens, (by decide), ?_⟩
    refine ⟨_, rfl, p, L.Cursor, dx, _, rfl, upd_same, T.cCursor, T.nCursor_at, (by show 1 < 1000; decide), ?_⟩
    rw [upd_upd, cur_init]
    have kp : ∀ b o, H b = some o → b ≠ p → upd H p (.ins L.Cursor dx (curF q 0)) b = some o := fun b o z n => by rw [upd_ne n]; exact z
    refine k _ ⟨0, ws, A, us, upd_same, kp _ _ hq (ne_of hq hp (by intro z; cases z)), hW.same fun b xs z => kp _ _ z (ne_of z hp (by intro z; cases z)), hT, rfl, hL⟩ kp
def sp_word (L : Lay) : Sp := fun vs H Q _ => ∃ (c : CAd) (t : PTok) (r : Toks), vs = [.ref c.a] ∧ CurAt H L c (t :: r) ∧ ∀ x : Word, TR x t → x.1.length ≤ 10000 → Q (.str (SX.S (nb x.1))) H
abbrev s_Cursor_word : Stmt := inClass (top 44) 1
theorem sc_Cursor_word : FnScope ["self"] ["self"] (defScope s_Cursor_word) := ⟨rfl, rfl, rfl, by decide +kernel, rfl, by decide +kernel, by decide +kernel⟩
theorem ok_Cursor_word {f : Addr} {fd : FuncData} (F : Fun K "word" "Cursor.word" s_Cursor_word f fd) (T : Txt K mg L) : FnOk P w K mg base CX0 1 f fd ["self"] (sp_word L) := by
  refine F.ok sc_Cursor_word (fun vs H Q E h => ?_) (fun cdv A outer s H vs Q E hr h => ?_)
  · obtain ⟨c, t, r, rfl, _⟩ := h
    rfl
  · refine ⟨_, pss_one (ps_ret (pe_ix ix_tup (pe_ix ix_list (pe_fld (pv 0) rfl) (pe_fld (pv 0) rfl) (fun _ _ => rfl)) pe_int (fun _ _ => rfl))), ?_⟩
    obtain ⟨c, t, r, rfl, hC, k⟩ := h
    obtain ⟨n, us, q, x, h1, h2, h3, h4, h5, h6, _⟩ := hC.word
    refine ⟨_, rfl, c.a, _, _, _, _, rfl, h1, T.cCursor, T.nCursor_tokens, cur_tokens _ _, _, rfl, c.a, _, _, _, _, rfl, h1, T.cCursor, T.nCursor_at, cur_at _ _, c.ta, _, _, _, rfl, rfl, SqL.of h2, h3, ?_⟩
    exact ⟨q, _, 0, _, rfl, rfl, SqT.of h4, atI_nat (j := 0) rfl, k x h5 h6⟩
def sp_here (L : Lay) : Sp := fun vs H Q _ => ∃ (c : CAd) (t : PTok) (r : Toks), vs = [.ref c.a] ∧ CurAt H L c (t :: r) ∧ Q (iv t.place) H
abbrev s_Cursor_here : Stmt := inClass (top 44) 2
theorem sc_Cursor_here : FnScope ["self"] ["self"] (defScope s_Cursor_here) := ⟨rfl, rfl, rfl, by decide +kernel, rfl, by decide +kernel, by decide +kernel⟩
theorem ok_Cursor_here {f : Addr} {fd : FuncData} (F : Fun K "here" "Cursor.here" s_Cursor_here f fd) (T : Txt K mg L) : FnOk P w K mg base CX0 1 f fd ["self"] (sp_here L) := by
  refine F.ok sc_Cursor_here (fun vs H Q E h => ?_) (fun cdv A outer s H vs Q E hr h => ?_)
  · obtain ⟨c, t, r, rfl, _⟩ := h
    rfl
  · refine ⟨_, pss_one (ps_ret (pe_ix ix_tup (pe_ix ix_list (pe_fld (pv 0) rfl) (pe_fld (pv 0) rfl) (fun _ _ => rfl)) pe_int (fun _ _ => rfl))), ?_⟩
    obtain ⟨c, t, r, rfl, hC, k⟩ := h
    obtain ⟨n, us, q, x, h1, h2, h3, h4, h5, h6, _⟩ := hC.word
    refine ⟨_, rfl, c.a, _, _, _, _, rfl, h1, T.cCursor, T.nCursor_tokens, cur_tokens _ _, _, rfl, c.a, _, _, _, _, rfl, h1, T.cCursor, T.nCursor_at, cur_at _ _, c.ta, _, _, _, rfl, rfl, SqL.of h2, h3, ?_⟩
    refine ⟨q, _, 1, _, rfl, rfl, SqT.of h4, atI_nat (j := 1) rfl, ?_⟩
    rw [h5.1]
    exact k
def sp_go_on (L : Lay) : Sp := fun vs H Q _ => ∃ (c : CAd) (t : PTok) (r : Toks), vs = [.ref c.a] ∧ CurAt H L c (t :: r) ∧ ∀ H', CurAt H' L c r → Fr (CS c) H H' → Q .non H'
abbrev s_Cursor_go_on : Stmt := inClass (top 44) 3
theorem sc_Cursor_go_on : FnScope ["self"] ["self"] (defScope s_Cursor_go_on) := ⟨rfl, rfl, rfl, by decide +kernel, rfl, by decide +kernel, by decide +kernel⟩
theorem ok_Cursor_go_on {f : Addr} {fd : FuncData} (F : Fun K "go_on" "Cursor.go_on" s_Cursor_go_on f fd) (T : Txt K mg L) : FnOk P w K mg base CX0 1 f fd ["self"] (sp_go_on L) := by
  refine F.ok sc_Cursor_go_on (fun vs H Q E h => ?_) (fun cdv A outer s H vs Q E hr h => ?_)
  · obtain ⟨c, t, r, rfl, _⟩ := h
    rfl
  · refine ⟨_, pss_one (ps_fldaug (pv 0) pe_int in_add), ?_⟩
    obtain ⟨c, t, r, rfl, hC, k⟩ := h
    obtain ⟨n, us, q, x, h1, h2, h3, h4, h5, h6, g⟩ := hC.word
    refine ⟨_, rfl, c.a, _, _, _, _, rfl, h1, T.cCursor, T.nCursor_at, cur_at _ _, _, _, rfl, rfl, _, _, h1, (by show 2 < 1000; decide), ?_⟩
    have e : putF "at" (V.int ((n : Int) + 1)) (curF c.ta n) = curF c.ta (n + 1) := cur_put _ _ _
    have kp : ∀ b o, H b = some o → b ≠ c.a → upd H c.a (.ins L.Cursor c.dx (curF c.ta (n + 1))) b = some o := fun b o z n => by rw [upd_ne n]; exact z
    show Q .non (upd H c.a (.ins L.Cursor c.dx (putF "at" (V.int ((n : Int) + 1)) (curF c.ta n))))
    rw [e]
    exact k _ (g _ upd_same kp) fun b o z nb => kp b o z nb
end
end Dr

namespace Dr
open PySem PySem.Spec PyProof.Rows L2
open VapcmBase (Bytes isBlank isLetter isDigit token Fault PTok Toks tokEq taken takeName next here PName)
/-- a written word is a token -/
def WordTok (wd : Bytes) (k : VapcmBase.Tok) : Prop := ∀ (a : Word) (t : PTok), TR a t → (a.1 = wd ↔ tokEq t.tok k = true)
theorem wt_sign {b : UInt8} (h : isSig b = true) : WordTok [b] (.sign b.toNat) := fun _ _ k => k.sign h
theorem wt_word {w : Bytes} (h : ∃ c r, w = c :: r ∧ isLetter c = true) : WordTok w (.name w) := fun _ _ k => k.word h
theorem wt_last : WordTok [] .last := fun _ _ k => k.last
theorem nbV_eq (a b : Bytes) : decide (V.str (SX.S (nb a)) = V.str (SX.S (nb b))) = decide (a = b) := by
  rw [Bool.eq_iff_iff, decide_eq_true_iff, decide_eq_true_iff]
  exact ⟨fun e => nb_inj (SX.S_inj (V.str.inj e)), fun e => by rw [e]⟩
section
variable {P : Program} {w : World} {K : PySem.W.Frag} {mg : Str → Option Value} {base : Heap} {L : Lay}
theorem flt_now {L : Lay} {E : XK} {S : Addr → Prop} {H : Hp} {f : VapcmBase.Fault} (k : FltE L E S H f) {dx : Addr} (n : H dx = none) : E (.ref L.Fault) (some dx) (upd H dx (.xd (fltF (iv f.code) (iv f.place)))) :=
  k _ dx (fun c o z _ => by rw [upd_ne (ne_of_none z n)]; exact z) n upd_same
def sp_expect (L : Lay) : Sp := fun vs H Q E => ∃ (c : CAd) (l : Toks) (wd : Bytes) (k : VapcmBase.Tok), vs = [.ref c.a, .str (SX.S (nb wd))] ∧ CurAt H L c l ∧ l ≠ [] ∧ WordTok wd k ∧
  (∀ m, taken k l = .ok m → ∀ H', CurAt H' L c m → Fr (CS c) H H' → Q .non H') ∧ (∀ f, taken k l = .error f → FltE L E (CS c) H f)
abbrev s_Cursor_expect : Stmt := inClass (top 44) 4
theorem sc_Cursor_expect : FnScope ["self", "word"] ["self", "word"] (defScope s_Cursor_expect) := ⟨rfl, rfl, rfl, by decide +kernel, rfl, by decide +kernel, by decide +kernel⟩
theorem ok_Cursor_expect {f : Addr} {fd : FuncData} (F : Fun K "expect" "Cursor.expect" s_Cursor_expect f fd) (T : Txt K mg L) (TF : PySem.FltX.FltTxt K mg L.Fault L.FaultI)
    (h_word : HasMeth P w K mg base CX0 1 L.Cursor "word" ["self"] (sp_word L)) (h_here : HasMeth P w K mg base CX0 1 L.Cursor "here" ["self"] (sp_here L)) (h_go_on : HasMeth P w K mg base CX0 1 L.Cursor "go_on" ["self"] (sp_go_on L)) :
    FnOk P w K mg base (L2.CX P w) 3 f fd ["self", "word"] (sp_expect L) := by
  refine F.okX sc_Cursor_expect (fun vs H Q E h => ?_) (fun cdv A outer s H vs Q E hr h => ?_)
  · obtain ⟨c, l, wd, k, rfl, _⟩ := h
    rfl
  · obtain ⟨f1, fd1, M_Cursor_word, b_Cursor_word, G_Cursor_word⟩ := h_word
    obtain ⟨f2, fd2, M_Cursor_here, b_Cursor_here, G_Cursor_here⟩ := h_here
    obtain ⟨f3, fd3, M_Cursor_go_on, b_Cursor_go_on, G_Cursor_go_on⟩ := h_go_on
    refine ⟨_, pss_cons (ps_if (pt_cmpR op_ne (pe_meth0 (pv 0) T.cCursor M_Cursor_word G_Cursor_word (hr.mono (by decide)) b_Cursor_word .nil pass0) (pv 1) (nomark _))
        (pss_one (ps_raiseFault rfl TF (hr.mono (by decide : 1 ≤ 2)) (takes_of rfl rfl rfl rfl) (pa_cons pe_int (pa_cons (pe_meth0 (pv 0) T.cCursor M_Cursor_here G_Cursor_here (hr.mono (by decide)) b_Cursor_here .nil pass0) pa_nil))))
        (pss_nil))
      (pss_one (ps_expr (pe_meth0 (pv 0) T.cCursor M_Cursor_go_on G_Cursor_go_on (hr.mono (by decide)) b_Cursor_go_on .nil pass0))), ?_⟩
    obtain ⟨c, l, wd, k, rfl, hC, hne, hW, kS, kE⟩ := h
    obtain ⟨t, r, rfl⟩ : ∃ t r, l = t :: r := by
      cases l with
      | nil => exact absurd rfl hne
      | cons t r => exact ⟨t, r, rfl⟩
    obtain ⟨n, us, q, x, h1, _⟩ := hC.word
    refine ⟨_, rfl, c.a, _, _, rfl, h1, cur_none _ _ (by decide +kernel) (by decide +kernel), c, t, r, rfl, hC, fun y hy1 hy2 => ?_⟩
    refine ⟨_, rfl, rfl, _, rfl, ?_⟩
    rw [nbV_eq]
    have hy := hW y t hy1
    by_cases e : y.1 = wd
    · refine iteF' (by rw [decide_eq_true e]; rfl) ?_
      have ht : taken k (t :: r) = .ok r := by
        show (if tokEq t.tok k = true then _ else _) = _
        rw [if_pos (hy.mp e)]
        rfl
      exact ⟨_, rfl, c.a, _, _, rfl, h1, cur_none _ _ (by decide +kernel) (by decide +kernel), c, t, r, rfl, hC, fun H' g1 g2 => kS r ht H' g1 g2⟩
    · refine iteT' (by rw [decide_eq_false e]; rfl) ?_
      have ht : taken k (t :: r) = .error ⟨3, t.place⟩ := by
        show (if tokEq t.tok k = true then _ else _) = _
        rw [if_neg (fun z => e (hy.mpr z))]
        rfl
      exact ⟨_, rfl, c.a, _, _, rfl, h1, cur_none _ _ (by decide +kernel) (by decide +kernel), c, t, r, rfl, hC, _, _, rfl, fun dx ndx => flt_now (kE _ ht) ndx⟩
def sp_name (L : Lay) : Sp := fun vs H Q E => ∃ (c : CAd) (l : Toks), vs = [.ref c.a] ∧ CurAt H L c l ∧ l ≠ [] ∧
  (∀ x, takeName l = .ok x → Q (nameV x.1.name) H) ∧ (∀ f, takeName l = .error f → FltE L E (CS c) H f)
abbrev s_Cursor_name : Stmt := inClass (top 44) 5
theorem sc_Cursor_name : FnScope ["self"] ["self"] (defScope s_Cursor_name) := ⟨rfl, rfl, rfl, by decide +kernel, rfl, by decide +kernel, by decide +kernel⟩
theorem ok_Cursor_name {f : Addr} {fd : FuncData} (F : Fun K "name" "Cursor.name" s_Cursor_name f fd) (T : Txt K mg L) (TF : PySem.FltX.FltTxt K mg L.Fault L.FaultI)
    (h_word : HasMeth P w K mg base CX0 1 L.Cursor "word" ["self"] (sp_word L)) (h_here : HasMeth P w K mg base CX0 1 L.Cursor "here" ["self"] (sp_here L)) (h_is_name : HasDef P w K mg base CX0 1 "is_name" ["word"] sp_is_name) :
    FnOk P w K mg base (L2.CX P w) 3 f fd ["self"] (sp_name L) := by
  refine F.okX sc_Cursor_name (fun vs H Q E h => ?_) (fun cdv A outer s H vs Q E hr h => ?_)
  · obtain ⟨c, l, rfl, _⟩ := h
    rfl
  · obtain ⟨f1, fd1, M_Cursor_word, b_Cursor_word, G_Cursor_word⟩ := h_word
    obtain ⟨f2, fd2, M_Cursor_here, b_Cursor_here, G_Cursor_here⟩ := h_here
    obtain ⟨f_is_name, fd_is_name, m_is_name, k_is_name, b_is_name, G_is_name⟩ := h_is_name
    refine ⟨_, pss_cons (ps_if (pt_not (pt_val (pe_call G_is_name (hr.mono (by decide)) rfl m_is_name k_is_name b_is_name .nil pass0 (pa_cons (pe_meth0 (pv 0) T.cCursor M_Cursor_word G_Cursor_word (hr.mono (by decide)) b_Cursor_word .nil pass0) pa_nil))))
        (pss_one (ps_raiseFault rfl TF (hr.mono (by decide : 1 ≤ 2)) (takes_of rfl rfl rfl rfl) (pa_cons pe_int (pa_cons (pe_meth0 (pv 0) T.cCursor M_Cursor_here G_Cursor_here (hr.mono (by decide)) b_Cursor_here .nil pass0) pa_nil))))
        (pss_nil))
      (pss_one (ps_ret (pe_meth0 (pv 0) T.cCursor M_Cursor_word G_Cursor_word (hr.mono (by decide)) b_Cursor_word .nil pass0))), ?_⟩
    obtain ⟨c, l, rfl, hC, hne, kS, kE⟩ := h
    obtain ⟨t, r, rfl⟩ : ∃ t r, l = t :: r := by
      cases l with
      | nil => exact absurd rfl hne
      | cons t r => exact ⟨t, r, rfl⟩
    obtain ⟨n, us, q, x, h1, _⟩ := hC.word
    refine ⟨_, rfl, c.a, _, _, rfl, h1, cur_none _ _ (by decide +kernel) (by decide +kernel), c, t, r, rfl, hC, fun y hy1 hy2 => ?_⟩
    refine ⟨y.1, rfl, hy2, _, rfl, ?_⟩
    rw [hy1.isName]
    cases ht : takeName (t :: r) with
    | ok z =>
      obtain ⟨p, b, r', e1, e2, e3⟩ := takeName_ok ht
      cases e1
      subst e3
      refine iteF' (by rw [e2]; rfl) ?_
      refine ⟨_, rfl, c.a, _, _, rfl, h1, cur_none _ _ (by decide +kernel) (by decide +kernel), c, _, r, rfl, hC, fun y2 hy3 hy4 => ?_⟩
      rw [hy3.2.1]
      exact kS _ ht
    | error f =>
      obtain ⟨e1, e2⟩ := takeName_err ht
      refine iteT' (by rw [e2 t r rfl]; rfl) ?_
      subst e1
      exact ⟨_, rfl, c.a, _, _, rfl, h1, cur_none _ _ (by decide +kernel) (by decide +kernel), c, t, r, rfl, hC, _, _, rfl, fun dx ndx => flt_now (kE _ ht) ndx⟩
end
end Dr

namespace Dr
open PySem PySem.Spec PyProof.Rows L2
open VapcmBase (Bytes isBlank isLetter isDigit token Fault PTok Toks tokEq taken takeName next here PName)
/-! ## parsing.py -/
def dftF (s u r : Addr) (br : Nat) (e : Bool) (b : Nat) : List (Str × V) := [("signs", .ref s), ("unknowns", .ref u), ("around", .ref r), ("brackets", iv br), ("ended", .bl e), ("begin", iv b)]
section
variable (s u r : Addr) (br : Nat) (e : Bool) (b : Nat)
theorem dft_signs : (dftF s u r br e b).lookup ("signs" : Str) = some (.ref s) := lk_here
theorem dft_unknowns : (dftF s u r br e b).lookup ("unknowns" : Str) = some (.ref u) := (lk_past (by decide +kernel)).trans lk_here
theorem dft_around : (dftF s u r br e b).lookup ("around" : Str) = some (.ref r) := (lk_past (by decide +kernel)).trans ((lk_past (by decide +kernel)).trans lk_here)
theorem dft_brackets : (dftF s u r br e b).lookup ("brackets" : Str) = some (iv br) := (lk_past (by decide +kernel)).trans ((lk_past (by decide +kernel)).trans ((lk_past (by decide +kernel)).trans lk_here))
theorem dft_ended : (dftF s u r br e b).lookup ("ended" : Str) = some (.bl e) := (lk_past (by decide +kernel)).trans ((lk_past (by decide +kernel)).trans ((lk_past (by decide +kernel)).trans ((lk_past (by decide +kernel)).trans lk_here)))
theorem dft_begin : (dftF s u r br e b).lookup ("begin" : Str) = some (iv b) := (lk_past (by decide +kernel)).trans ((lk_past (by decide +kernel)).trans ((lk_past (by decide +kernel)).trans ((lk_past (by decide +kernel)).trans ((lk_past (by decide +kernel)).trans lk_here))))
theorem dft_none {m : Str} (h1 : (m == ("signs" : Str)) = false) (h2 : (m == ("unknowns" : Str)) = false) (h3 : (m == ("around" : Str)) = false) (h4 : (m == ("brackets" : Str)) = false) (h5 : (m == ("ended" : Str)) = false) (h6 : (m == ("begin" : Str)) = false) : (dftF s u r br e b).lookup m = none :=
  (lk_past h1).trans ((lk_past h2).trans ((lk_past h3).trans ((lk_past h4).trans ((lk_past h5).trans ((lk_past h6).trans rfl)))))
theorem dft_put_br (n : Nat) : putF "brackets" (iv n) (dftF s u r br e b) = dftF s u r n e b := (put_past (by decide +kernel)).trans (congrArg _ ((put_past (by decide +kernel)).trans (congrArg _ ((put_past (by decide +kernel)).trans (congrArg _ put_here)))))
theorem dft_put_ended (n : Bool) : putF "ended" (.bl n) (dftF s u r br e b) = dftF s u r br n b := (put_past (by decide +kernel)).trans (congrArg _ ((put_past (by decide +kernel)).trans (congrArg _ ((put_past (by decide +kernel)).trans (congrArg _ ((put_past (by decide +kernel)).trans (congrArg _ put_here)))))))
theorem dft_put_begin (n : Nat) : putF "begin" (iv n) (dftF s u r br e b) = dftF s u r br e n := (put_past (by decide +kernel)).trans (congrArg _ ((put_past (by decide +kernel)).trans (congrArg _ ((put_past (by decide +kernel)).trans (congrArg _ ((put_past (by decide +kernel)).trans (congrArg _ ((put_past (by decide +kernel)).trans (congrArg _ put_here)))))))))
theorem dft_init : putF "begin" (V.int 0) (putF "ended" (.bl false) (putF "brackets" (V.int 0) (putF "around" (.ref r) (putF "unknowns" (.ref u) (putF "signs" (.ref s) []))))) = dftF s u r 0 false 0 := by
  have e1 : putF ("signs" : Str) (V.ref s) [] = [(("signs" : Str), V.ref s)] := rfl
  have e2 : putF ("unknowns" : Str) (V.ref u) [(("signs" : Str), V.ref s)] = [(("signs" : Str), V.ref s), (("unknowns" : Str), V.ref u)] := (put_past (by decide +kernel)).trans rfl
  have e3 : putF ("around" : Str) (V.ref r) [(("signs" : Str), V.ref s), (("unknowns" : Str), V.ref u)] = [(("signs" : Str), V.ref s), (("unknowns" : Str), V.ref u), (("around" : Str), V.ref r)] := (put_past (by decide +kernel)).trans (congrArg _ ((put_past (by decide +kernel)).trans rfl))
  have e4 : putF ("brackets" : Str) (V.int 0) [(("signs" : Str), V.ref s), (("unknowns" : Str), V.ref u), (("around" : Str), V.ref r)] = [(("signs" : Str), V.ref s), (("unknowns" : Str), V.ref u), (("around" : Str), V.ref r), (("brackets" : Str), V.int 0)] := (put_past (by decide +kernel)).trans (congrArg _ ((put_past (by decide +kernel)).trans (congrArg _ ((put_past (by decide +kernel)).trans rfl))))
  have e5 : putF ("ended" : Str) (V.bl false) [(("signs" : Str), V.ref s), (("unknowns" : Str), V.ref u), (("around" : Str), V.ref r), (("brackets" : Str), V.int 0)] = [(("signs" : Str), V.ref s), (("unknowns" : Str), V.ref u), (("around" : Str), V.ref r), (("brackets" : Str), V.int 0), (("ended" : Str), V.bl false)] := (put_past (by decide +kernel)).trans (congrArg _ ((put_past (by decide +kernel)).trans (congrArg _ ((put_past (by decide +kernel)).trans (congrArg _ ((put_past (by decide +kernel)).trans rfl))))))
  rw [e1, e2, e3, e4, e5]
  exact (put_past (by decide +kernel)).trans (congrArg _ ((put_past (by decide +kernel)).trans (congrArg _ ((put_past (by decide +kernel)).trans (congrArg _ ((put_past (by decide +kernel)).trans (congrArg _ ((put_past (by decide +kernel)).trans rfl))))))))
end
structure GAd where
  a : Addr
  dx : Addr
  sa : Addr
  ua : Addr
  ra : Addr
inductive ArIs (H : Hp) : List (Nat × Nat) → List V → Prop
  | nil : ArIs H [] []
  | cons {p : Nat × Nat} {q : Addr} {ps : List (Nat × Nat)} {vs : List V} (h : H q = some (.tup [.str (SX.S [p.1]), iv p.2])) (r : ArIs H ps vs) : ArIs H (p :: ps) (.ref q :: vs)
theorem ArIs.same {H H' : Hp} (e : ∀ b xs, H b = some (.tup xs) → H' b = some (.tup xs)) {ps : List (Nat × Nat)} {vs : List V} (h : ArIs H ps vs) : ArIs H' ps vs := by
  induction h with
  | nil => exact .nil
  | cons h _ ih => exact .cons (e _ _ h) ih
theorem ArIs.length {H : Hp} {ps : List (Nat × Nat)} {vs : List V} (h : ArIs H ps vs) : vs.length = ps.length := by
  induction h with
  | nil => rfl
  | cons h _ ih => simp [ih]
structure DftAt (H : Hp) (L : Lay) (g : GAd) (S : Dft) : Prop where
  obj : H g.a = some (.ins L.Draft g.dx (dftF g.sa g.ua g.ra S.br S.ended S.beg))
  sg : H g.sa = some (.lst (S.signs.map iv))
  un : H g.ua = some (.dK (numsFrom 2 S.ks))
  ar : ∃ vs, H g.ra = some (.lst vs.reverse) ∧ ArIs H S.ar vs
  ne : g.sa ≠ g.ra
def GS (g : GAd) (b : Addr) : Prop := b = g.a ∨ b = g.sa ∨ b = g.ua ∨ b = g.ra
theorem DftAt.mono {H H' : Hp} {L : Lay} {g : GAd} {S : Dft} (h : DftAt H L g S) (e : ∀ b o, H b = some o → (∃ xs, o = .tup xs) ∨ GS g b → H' b = some o) : DftAt H' L g S := by
  obtain ⟨vs, h1, h2⟩ := h.ar
  exact ⟨e _ _ h.obj (.inr (.inl rfl)), e _ _ h.sg (.inr (.inr (.inl rfl))), e _ _ h.un (.inr (.inr (.inr (.inl rfl)))), ⟨vs, e _ _ h1 (.inr (.inr (.inr (.inr rfl)))), h2.same fun b xs z => e _ _ z (.inl ⟨_, rfl⟩)⟩, h.ne⟩
theorem DftAt.same {H H' : Hp} {L : Lay} {g : GAd} {S : Dft} (h : DftAt H L g S) (e : Same H H') : DftAt H' L g S := h.mono fun b o z _ => e b o z
section
variable {P : Program} {w : World} {K : PySem.W.Frag} {mg : Str → Option Value} {base : Heap} {L : Lay}
def sp_Draft_init (L : Lay) : Sp := fun vs H Q _ => ∃ (p dx : Addr), vs = [.ref p] ∧ H p = some (.ins L.Draft dx []) ∧
  ∀ (H' : Hp) (g : GAd), g.a = p → g.dx = dx → DftAt H' L g .init → (∀ b o, H b = some o → b ≠ p → H' b = some o) → (∀ b, GS g b → b ≠ p → H b = none) → Q .non H'
abbrev s_Draft_init : Stmt := inClass (top 48) 0
theorem sc_Draft_init : FnScope ["self"] ["self"] (defScope s_Draft_init) := ⟨rfl, rfl, rfl, by decide +kernel, rfl, by decide +kernel, by decide +kernel⟩
theorem ok_Draft_init {f : Addr} {fd : FuncData} (F : Fun K "__init__" "Draft.__init__" s_Draft_init f fd) (T : Txt K mg L) : FnOk P w K mg base CX0 1 f fd ["self"] (sp_Draft_init L) := by
  refine F.ok sc_Draft_init (fun vs H Q E h => ?_) (fun cdv A outer s H vs Q E hr h => ?_)
  · obtain ⟨p, dx, rfl, _⟩ := h
    rfl
  · refine ⟨_, pss_cons (ps_fld (pv 0) (pe_lst pa_nil) rfl)
      (pss_cons (ps_fld (pv 0) pe_dnewK rfl)
      (pss_cons (ps_fld (pv 0) (pe_lst pa_nil) rfl)
      (pss_cons (ps_fld (pv 0) pe_int rfl)
      (pss_cons (ps_fld (pv 0) pe_bl rfl)
      (pss_one (ps_fld (pv 0) pe_int rfl)))))), ?_⟩
    obtain ⟨p, dx, rfl, hp, k⟩ := h
    refine ⟨(by decide), fun q1 n1 => ⟨_, rfl, p, L.Draft, dx, _, rfl, by rw [upd_ne (ne_of_none hp n1)]; exact hp, T.cDraft, T.nDraft_signs, (by decide), ?_⟩⟩
    have e1 : p ≠ q1 := ne_of_none hp n1
    refine fun q2 n2 => ⟨_, rfl, p, L.Draft, dx, _, rfl, by rw [upd_ne (ne_of_none upd_same n2)]; exact upd_same, T.cDraft, T.nDraft_unknowns, (by show 1 < 1000; decide), ?_⟩
    have e2 : p ≠ q2 := ne_of_none upd_same n2
    have e3 : q1 ≠ q2 := ne_of_none (by rw [upd_ne (Ne.symm e1)]; exact upd_same) n2
    refine ⟨(by decide), fun q3 n3 => ⟨_, rfl, p, L.Draft, dx, _, rfl, by rw [upd_ne (ne_of_none upd_same n3)]; exact upd_same, T.cDraft, T.nDraft_around, (by show 2 < 1000; decide), ?_⟩⟩
    have e4 : p ≠ q3 := ne_of_none upd_same n3
    have e5 : q2 ≠ q3 := ne_of_none (by rw [upd_ne (Ne.symm e2)]; exact upd_same) n3
    have e6 : q1 ≠ q3 := ne_of_none (by rw [upd_ne (Ne.symm e1), upd_ne e3, upd_ne (Ne.symm e1)]; exact upd_same) n3
    have f2 : H q2 = none := by
      rw [upd_ne (Ne.symm e2), upd_ne (Ne.symm e3)] at n2; exact n2
    have f3 : H q3 = none := by
      rw [upd_ne (Ne.symm e4), upd_ne (Ne.symm e5), upd_ne (Ne.symm e4), upd_ne (Ne.symm e6)] at n3; exact n3
    refine ⟨_, rfl, p, L.Draft, dx, _, rfl, upd_same, T.cDraft, T.nDraft_brackets, (by show 3 < 1000; decide), ?_⟩
    refine ⟨_, rfl, p, L.Draft, dx, _, rfl, upd_same, T.cDraft, T.nDraft_ended, (by show 4 < 1000; decide), ?_⟩
    refine ⟨_, rfl, p, L.Draft, dx, _, rfl, upd_same, T.cDraft, T.nDraft_begin, (by show 5 < 1000; decide), ?_⟩
    rw [upd_upd, upd_upd, upd_upd, dft_init]
    refine k _ ⟨p, dx, q1, q2, q3⟩ rfl rfl ⟨?_, ?_, ?_, ⟨[], ?_, .nil⟩, e6⟩ (fun b o z nb => ?_) ?_
    · exact upd_same
    · show upd _ p _ q1 = _
      rw [upd_ne (Ne.symm e1), upd_ne e6, upd_ne (Ne.symm e1), upd_ne e3, upd_ne (Ne.symm e1), upd_same]
      rfl
    · show upd _ p _ q2 = _
      rw [upd_ne (Ne.symm e2), upd_ne e5, upd_ne (Ne.symm e2), upd_same]
      rfl
    · show upd _ p _ q3 = _
      rw [upd_ne (Ne.symm e4), upd_same]
      rfl
    · rw [upd_ne nb, upd_ne (ne_of_none z f3), upd_ne nb, upd_ne (ne_of_none z f2), upd_ne nb, upd_ne (ne_of_none z n1)]
      exact z
    · rintro b (h | h | h | h) nb
      · exact absurd h nb
      · rw [h]; exact n1
      · rw [h]; exact f2
      · rw [h]; exact f3
def sp_is_whole (L : Lay) : Sp := fun vs H Q _ => ∃ (g : GAd) (S : Dft), vs = [.ref g.a] ∧ DftAt H L g S ∧ Q (.bl S.whole) H
abbrev s_Draft_is_whole : Stmt := inClass (top 48) 1
theorem sc_Draft_is_whole : FnScope ["self"] ["self"] (defScope s_Draft_is_whole) := ⟨rfl, rfl, rfl, by decide +kernel, rfl, by decide +kernel, by decide +kernel⟩
theorem ok_Draft_is_whole {f : Addr} {fd : FuncData} (F : Fun K "is_whole" "Draft.is_whole" s_Draft_is_whole f fd) (T : Txt K mg L) : FnOk P w K mg base CX0 1 f fd ["self"] (sp_is_whole L) := by
  refine F.ok sc_Draft_is_whole (fun vs H Q E h => ?_) (fun cdv A outer s H vs Q E hr h => ?_)
  · obtain ⟨g, S, rfl, _⟩ := h
    rfl
  · refine ⟨_, pss_one (ps_ret (pe_and (pe_fld (pv 0) rfl) (pe_one (pe_cmpR op_eq (pe_fld (pv 0) rfl) pe_int (nomark _))))), ?_⟩
    obtain ⟨g, S, rfl, hD, k⟩ := h
    refine ⟨_, rfl, g.a, _, _, _, _, rfl, hD.obj, T.cDraft, T.nDraft_ended, dft_ended _ _ _ _ _ _, _, rfl, ?_⟩
    unfold Dft.whole at k
    cases e : S.ended with
    | false =>
      rw [e] at k
      exact k
    | true =>
      rw [e, Bool.true_and] at k
      refine iteT ?_
      refine ⟨_, rfl, g.a, _, _, _, _, rfl, hD.obj, T.cDraft, T.nDraft_brackets, dft_brackets _ _ _ _ _ _, rfl, ?_⟩
      have : decide (V.int (S.br : Int) = V.int 0) = decide (S.br = 0) := by
        rw [Bool.eq_iff_iff, decide_eq_true_iff, decide_eq_true_iff]
        simp
      rw [this]
      exact k
/-- a word is a written sign -/
theorem wd_is {x : Word} {t : PTok} (h : TR x t) (b : UInt8) (hb : isSig b = true) {s : Str} (es : s = SX.S [b.toNat]) : decide (V.str (SX.S (nb x.1)) = V.str s) = tokEq t.tok (.sign b.toNat) := by
  have e : SX.S [b.toNat] = SX.S (nb [b]) := rfl
  rw [es, e, nbV_eq, Bool.eq_iff_iff, decide_eq_true_iff]
  exact h.sign hb
def sp_takes (L : Lay) : Sp := fun vs H Q _ => ∃ (g : GAd) (S : Dft) (x : Word) (t : PTok), vs = [.ref g.a, .str (SX.S (nb x.1))] ∧ DftAt H L g S ∧ TR x t ∧ x.1.length ≤ 10000 ∧ Q (.bl (S.takes t.tok)) H
abbrev s_Draft_takes : Stmt := inClass (top 48) 2
theorem sc_Draft_takes : FnScope ["self", "word"] ["self", "word"] (defScope s_Draft_takes) := ⟨rfl, rfl, rfl, by decide +kernel, rfl, by decide +kernel, by decide +kernel⟩
theorem ok_Draft_takes {f : Addr} {fd : FuncData} (F : Fun K "takes" "Draft.takes" s_Draft_takes f fd) (T : Txt K mg L) (h_is_name : HasDef P w K mg base CX0 1 "is_name" ["word"] sp_is_name) : FnOk P w K mg base CX0 2 f fd ["self", "word"] (sp_takes L) := by
  refine F.ok sc_Draft_takes (fun vs H Q E h => ?_) (fun cdv A outer s H vs Q E hr h => ?_)
  · obtain ⟨g, S, x, t, rfl, _⟩ := h
    rfl
  · obtain ⟨f_is_name, fd_is_name, m_is_name, k_is_name, b_is_name, G_is_name⟩ := h_is_name
    refine ⟨_, pss_cons (ps_if (pt_val (pe_fld (pv 0) rfl))
        (pss_one (ps_ret (pe_or (pe_cmpR op_eq (pv 1) pe_str (nomark _)) (pe_one (pe_and (pe_cmpR op_eq (pv 1) pe_str (nomark _)) (pe_one (pe_cmpR op_gt (pe_fld (pv 0) rfl) pe_int (nomark _))))))))
        (pss_nil))
      (pss_one (ps_ret (pe_or (pe_cmpR op_eq (pv 1) pe_str (nomark _)) (pe_or (pe_cmpR op_eq (pv 1) pe_str (nomark _)) (pe_one (pe_call G_is_name (hr.mono (by decide)) rfl m_is_name k_is_name b_is_name .nil pass0 (pa_cons (pv 1) pa_nil))))))), ?_⟩
    obtain ⟨g, S, x, t, rfl, hD, hT, hL, k⟩ := h
    have w62 := wd_is hT 62 (by decide +kernel) (s := Str.ofString ">") (by decide +kernel)
    have w41 := wd_is hT 41 (by decide +kernel) (s := Str.ofString ")") (by decide +kernel)
    have w126 := wd_is hT 126 (by decide +kernel) (s := Str.ofString "~") (by decide +kernel)
    have w40 := wd_is hT 40 (by decide +kernel) (s := Str.ofString "(") (by decide +kernel)
    refine ⟨_, rfl, g.a, _, _, _, _, rfl, hD.obj, T.cDraft, T.nDraft_ended, dft_ended _ _ _ _ _ _, _, rfl, ?_⟩
    unfold Dft.takes at k
    cases e : S.ended with
    | true =>
      rw [e, if_pos rfl] at k
      refine iteT ?_
      refine ⟨_, rfl, rfl, _, rfl, ?_⟩
      rw [w62]
      have k : Q (.bl (tokEq t.tok (.sign 62) || (tokEq t.tok (.sign 41) && decide (0 < S.br)))) H := k
      show if tokEq t.tok (.sign 62) = true then _ else _
      cases e1 : tokEq t.tok (.sign 62) with
      | true =>
        rw [e1] at k
        exact k
      | false =>
        rw [e1, Bool.false_or] at k
        refine iteF ?_
        refine ⟨_, rfl, rfl, _, rfl, ?_⟩
        rw [w41]
        show if tokEq t.tok (.sign 41) = true then _ else _
        cases e2 : tokEq t.tok (.sign 41) with
        | false =>
          rw [e2] at k
          exact k
        | true =>
          rw [e2, Bool.true_and] at k
          refine iteT ?_
          refine ⟨_, rfl, g.a, _, _, _, _, rfl, hD.obj, T.cDraft, T.nDraft_brackets, dft_brackets _ _ _ _ _ _, _, _, rfl, rfl, ?_⟩
          have : decide ((S.br : Int) > 0) = decide (0 < S.br) := by
            rw [Bool.eq_iff_iff, decide_eq_true_iff, decide_eq_true_iff]; omega
          show Q (.bl (decide ((S.br : Int) > 0))) H
          rw [this]
          exact k
    | false =>
      rw [e] at k
      refine iteF ?_
      have k : Q (.bl (tokEq t.tok (.sign 126) || tokEq t.tok (.sign 40) || isName t.tok)) H := k
      refine ⟨_, rfl, rfl, _, rfl, ?_⟩
      rw [w126]
      show if tokEq t.tok (.sign 126) = true then _ else _
      cases e1 : tokEq t.tok (.sign 126) with
      | true =>
        rw [e1] at k
        exact k
      | false =>
        rw [e1, Bool.false_or] at k
        refine iteF ?_
        refine ⟨_, rfl, rfl, _, rfl, ?_⟩
        rw [w40]
        show if tokEq t.tok (.sign 40) = true then _ else _
        cases e2 : tokEq t.tok (.sign 40) with
        | true =>
          rw [e2] at k
          exact k
        | false =>
          rw [e2, Bool.false_or] at k
          refine iteF ?_
          refine ⟨_, rfl, x.1, rfl, hL, ?_⟩
          rw [hT.isName]
          exact k
end
end Dr

namespace Dr
open PySem PySem.Spec PyProof.Rows L2
open VapcmBase (Bytes isBlank isLetter isDigit token Fault PTok Toks tokEq taken takeName next here PName)
theorem atI_last {y : V} {r : List V} : atI (y :: r).reverse (-1) = some y := by
  have e1 : ixN (y :: r).reverse.length (-1) = some r.length := by
    unfold ixN
    rw [if_neg (by omega), List.length_reverse, List.length_cons, if_pos (by omega)]
    congr 1
    omega
  unfold atI
  rw [e1]
  show (y :: r).reverse[r.length]? = _
  simp
theorem sgn_eq (k j : Nat) {s : Str} (es : s = SX.S [j]) : decide (V.str (SX.S [k]) = V.str s) = decide (k = j) := by
  rw [es, Bool.eq_iff_iff, decide_eq_true_iff, decide_eq_true_iff]
  exact ⟨fun e => (List.cons.inj (SX.S_inj (V.str.inj e))).1, fun e => by rw [e]⟩
theorem popT_126 {x b : Nat} {r : List (Nat × Nat)} : popT ((126, x) :: r) b = popT r x := by simp [popT]
theorem popT_ne {k x b : Nat} {r : List (Nat × Nat)} (h : k ≠ 126) : popT ((k, x) :: r) b = ((k, x) :: r, b) := by simp [popT, h]
theorem popG_62 {x : Nat} {r : List (Nat × Nat)} : popG ((62, x) :: r) = popG r := by simp [popG]
theorem popG_ne {k x : Nat} {r : List (Nat × Nat)} (h : k ≠ 62) : popG ((k, x) :: r) = (k, x) :: r := by simp [popG, h]
section
variable {P : Program} {w : World} {K : PySem.W.Frag} {mg : Str → Option Value} {base : Heap} {L : Lay}
/-- the top of what has not ended is taken off -/
theorem DftAt.pop {H : Hp} {L : Lay} {g : GAd} {S : Dft} {p : Nat × Nat} {r : List (Nat × Nat)} (h : DftAt H L g S) (e : S.ar = p :: r) : ∃ (q : Addr) (us : List V), H g.ra = some (.lst (V.ref q :: us).reverse) ∧ H q = some (.tup [.str (SX.S [p.1]), iv p.2]) ∧
    DftAt (upd H g.ra (.lst us.reverse)) L g { S with ar := r } ∧ Fr (GS g) H (upd H g.ra (.lst us.reverse)) ∧ (upd H g.ra (.lst us.reverse)) q = some (.tup [.str (SX.S [p.1]), iv p.2]) := by
  obtain ⟨vs, h1, h2⟩ := h.ar
  rw [e] at h2
  cases h2 with
  | @cons _ q _ us hq hr =>
    have k : ∀ b o, H b = some o → b ≠ g.ra → upd H g.ra (.lst us.reverse) b = some o := fun b o z n => by rw [upd_ne n]; exact z
    refine ⟨q, us, h1, hq, ⟨k _ _ h.obj (ne_of h.obj h1 (by intro z; cases z)), k _ _ h.sg h.ne, k _ _ h.un (ne_of h.un h1 (by intro z; cases z)), ⟨us, upd_same, hr.same fun b xs z => k _ _ z (ne_of z h1 (by intro z; cases z))⟩, h.ne⟩, fun b o z n => k b o z (fun e => n (.inr (.inr (.inr e)))), k _ _ hq (ne_of hq h1 (by intro z; cases z))⟩
theorem GS.trans {g : GAd} {H H1 H2 : Hp} (a : Fr (GS g) H H1) (b : Fr (GS g) H1 H2) : Fr (GS g) H H2 := Fr.trans a b
def sp_end_part (L : Lay) : Sp := fun vs H Q _ => ∃ (g : GAd) (S : Dft) (b : Nat), vs = [.ref g.a, iv b] ∧ DftAt H L g S ∧ ∀ H', DftAt H' L g (S.endPart b) → Fr (GS g) H H' → Q .non H'
abbrev s_Draft_end_part : Stmt := inClass (top 48) 5
theorem sc_Draft_end_part : FnScope ["self", "begin"] ["self", "begin"] (defScope s_Draft_end_part) := ⟨rfl, rfl, rfl, by decide +kernel, rfl, by decide +kernel, by decide +kernel⟩
theorem ok_Draft_end_part {f : Addr} {fd : FuncData} (F : Fun K "end_part" "Draft.end_part" s_Draft_end_part f fd) (T : Txt K mg L) : FnOk P w K mg base CX0 1 f fd ["self", "begin"] (sp_end_part L) := by
  refine F.ok sc_Draft_end_part (fun vs H Q E h => ?_) (fun cdv A outer s H vs Q E hr h => ?_)
  · obtain ⟨g, S, b, rfl, _⟩ := h
    rfl
  · refine ⟨_, pss_cons (ps_while PassesOwn.never (PW.pt (pw_and (pt_truth (pe_fld (pv 0) rfl) (by intro _; rfl)) (pw_and1 (pt_cmpR op_eq (pe_ix ix_tup (pe_ix ix_list (pe_fld (pv 0) rfl) (pe_un un_neg pe_int) (fun _ _ => rfl)) pe_int (fun _ _ => rfl)) pe_str (nomark _)))))
        (pss_one (ps_set (i := 1) sc_Draft_end_part.nd rfl (Or.inl rfl) (pe_ix ix_tup (pe_bm0 PySem.F.plainAttrs_list PySem.F.slot_list_pop PySem.F.type_list_pop mt_pop (pe_fld (pv 0) rfl)) pe_int (fun _ _ => rfl)))))
      (pss_cons (ps_fld (pv 0) (pv 1) rfl)
      (pss_one (ps_fld (pv 0) pe_bl rfl))), ?_⟩
    obtain ⟨g, S, b, rfl, hD, k⟩ := h
    refine ⟨fun m σ H' => ∃ (ar : List (Nat × Nat)) (c : Nat), σ = [some (.ref g.a), some (iv c)] ∧ DftAt H' L g { S with ar := ar } ∧ Fr (GS g) H H' ∧ popT ar c = popT S.ar b ∧ m = ar.length, ⟨_, S.ar, b, rfl, hD, Fr.refl _ _, rfl, rfl⟩, ?_⟩
    rintro m σ H' ⟨ar, c, rfl, hD', fr, hpop, rfl⟩
    -- what follows the loop
    have fin : popT ar c = (ar, c) → ((tSeq (sFld K (tVar 0) (tVar 1) "begin") (sFld K (tVar 0) (tC (.bl true)) "ended")) { nx := fun _ H' => Q .non H', rt := Q } [some (.ref g.a), some (iv c)] H') := by
      intro hp
      have eS : S.endPart b = { S with ar := ar, beg := c, ended := true } := by
        unfold Dft.endPart
        rw [← hpop, hp]
      refine ⟨_, rfl, _, rfl, g.a, _, _, _, rfl, hD'.obj, T.cDraft, T.nDraft_begin, (by show 6 < 1000; decide), ?_⟩
      refine ⟨_, rfl, g.a, _, _, _, rfl, upd_same, T.cDraft, T.nDraft_ended, ?_, ?_⟩
      · rw [dft_put_begin]; show 6 < 1000; decide
      · rw [upd_upd, dft_put_begin, dft_put_ended]
        have kp : ∀ b o, H' b = some o → b ≠ g.a → upd H' g.a (.ins L.Draft g.dx (dftF g.sa g.ua g.ra S.br true c)) b = some o := fun b o z n => by rw [upd_ne n]; exact z
        obtain ⟨vs, h1, h2⟩ := hD'.ar
        refine k _ (by rw [eS]; exact ⟨upd_same, kp _ _ hD'.sg (ne_of hD'.sg hD'.obj (by intro z; cases z)), kp _ _ hD'.un (ne_of hD'.un hD'.obj (by intro z; cases z)), ⟨vs, kp _ _ h1 (ne_of h1 hD'.obj (by intro z; cases z)), h2.same fun b xs z => kp _ _ z (ne_of z hD'.obj (by intro z; cases z))⟩, hD'.ne⟩) (fr.trans fun b o z n => kp b o z fun e => n (.inl e))
    cases ar with
    | nil =>
      obtain ⟨vs, h1, h2⟩ := hD'.ar
      cases h2
      refine ⟨_, rfl, g.a, _, _, _, _, rfl, hD'.obj, T.cDraft, T.nDraft_around, dft_around _ _ _ _ _ _, _, .inl ⟨_, SqL.of h1, rfl⟩, ?_⟩
      refine iteF' rfl ?_
      refine iteF' rfl ?_
      exact fin rfl
    | cons p r =>
      obtain ⟨q, us, h1, hq, hD2, fr2, hq2⟩ := hD'.pop rfl
      refine ⟨_, rfl, g.a, _, _, _, _, rfl, hD'.obj, T.cDraft, T.nDraft_around, dft_around _ _ _ _ _ _, _, .inl ⟨_, SqL.of h1, rfl⟩, ?_⟩
      refine iteT' (by simp) ?_
      refine ⟨_, rfl, g.a, _, _, _, _, rfl, hD'.obj, T.cDraft, T.nDraft_around, dft_around _ _ _ _ _ _, _, rfl, g.ra, _, _, _, rfl, rfl, SqL.of h1, atI_last, q, _, 0, _, rfl, rfl, SqT.of hq, atI_nat (j := 0) rfl, rfl, _, rfl, ?_⟩
      rw [sgn_eq p.1 126 (s := Str.ofString "~") (by decide +kernel)]
      obtain ⟨k1, x1⟩ := p
      by_cases c1 : k1 = 126
      · subst c1
        refine iteT' (decide_eq_true rfl) ?_
        refine ⟨fun σ' H2 => ∃ m', m' < ((126, x1) :: r).length ∧ ∃ (ar : List (Nat × Nat)) (c : Nat), σ' = [some (.ref g.a), some (iv c)] ∧ DftAt H2 L g { S with ar := ar } ∧ Fr (GS g) H H2 ∧ popT ar c = popT S.ar b ∧ m' = ar.length, fun _ _ z => z, ?_⟩
        refine ⟨_, rfl, g.a, _, _, _, _, rfl, hD'.obj, T.cDraft, T.nDraft_around, dft_around _ _ _ _ _ _, .inl ⟨rfl, _, SqL.of h1⟩, g.ra, _, _, rfl, rfl, h1, last_rev _ _, ?_⟩
        rw [drop_rev]
        refine ⟨q, _, 1, _, rfl, rfl, SqT.of hq2, atI_nat (j := 1) rfl, ?_⟩
        exact ⟨r.length, by simp, r, x1, rfl, hD2, fr.trans fr2, by rw [← hpop, popT_126], rfl⟩
      · refine iteF' (decide_eq_false c1) ?_
        exact fin (popT_ne c1)
end
end Dr

namespace Dr
open PySem PySem.Spec PyProof.Rows L2
open VapcmBase (Bytes isBlank isLetter isDigit token Fault PTok Toks tokEq taken takeName next here PName)
def n40 (l : List (Nat × Nat)) : Nat := (l.filter fun e => decide (e.1 = 40)).length
theorem n40_cons (e : Nat × Nat) (l : List (Nat × Nat)) : n40 (e :: l) = (if e.1 = 40 then 1 else 0) + n40 l := by
  unfold n40
  rw [List.filter_cons]
  by_cases h : e.1 = 40
  · rw [if_pos (decide_eq_true h), if_pos h, List.length_cons]; omega
  · rw [if_neg (by simpa using h), if_neg h]; omega
structure DOk (S : Dft) : Prop where
  en : ∀ e ∈ S.ar, e.2 ≤ S.signs.length
  br : S.br ≤ n40 S.ar
  beg : S.beg ≤ S.signs.length
theorem popG_some : ∀ {l : List (Nat × Nat)}, 0 < n40 l → ∃ k b r, popG l = (k, b) :: r
  | [], h => by simp [n40] at h
  | (k, b) :: r, h => by
    by_cases e : k = 62
    · subst e
      rw [popG_62]
      rw [n40_cons, if_neg (by simp)] at h
      exact popG_some (by omega)
    · exact ⟨k, b, r, popG_ne e⟩
theorem popG_n40 : ∀ {l : List (Nat × Nat)} {k b : Nat} {r : List (Nat × Nat)}, popG l = (k, b) :: r → n40 l ≤ n40 r + 1 ∧ (∀ e ∈ r, e ∈ l) ∧ (k, b) ∈ l ∧ r.length < l.length
  | [], _, _, _, h => by cases h
  | (j, c) :: l, k, b, r, h => by
    by_cases e : j = 62
    · subst e
      rw [popG_62] at h
      obtain ⟨h1, h2, h3, h4⟩ := popG_n40 h
      rw [n40_cons, if_neg (by simp)]
      exact ⟨by omega, fun e he => List.mem_cons_of_mem _ (h2 e he), List.mem_cons_of_mem _ h3, by simp; omega⟩
    · rw [popG_ne e] at h
      cases h
      rw [n40_cons]
      refine ⟨by split <;> omega, fun e he => List.mem_cons_of_mem _ he, List.mem_cons_self, by simp⟩
theorem popT_n40 : ∀ (l : List (Nat × Nat)) (b : Nat), n40 (popT l b).1 = n40 l ∧ (∀ e ∈ (popT l b).1, e ∈ l) ∧ ((popT l b).2 = b ∨ ∃ k, (k, (popT l b).2) ∈ l) ∧ (popT l b).1.length ≤ l.length
  | [], b => ⟨rfl, fun e he => he, .inl rfl, Nat.le_refl _⟩
  | (k, x) :: l, b => by
    by_cases e : k = 126
    · subst e
      rw [popT_126, n40_cons, if_neg (by simp)]
      obtain ⟨h1, h2, h3, h4⟩ := popT_n40 l x
      refine ⟨by omega, fun e he => List.mem_cons_of_mem _ (h2 e he), ?_, by simp; omega⟩
      rcases h3 with h3 | ⟨k, h3⟩
      · rw [h3]; exact .inr ⟨126, List.mem_cons_self⟩
      · exact .inr ⟨k, List.mem_cons_of_mem _ h3⟩
    · rw [popT_ne e]
      exact ⟨rfl, fun e he => he, .inl rfl, Nat.le_refl _⟩
theorem endPart_ok {S : Dft} (h : DOk S) {b : Nat} (hb : b ≤ S.signs.length) : DOk (S.endPart b) ∧ (S.endPart b).ar.length ≤ S.ar.length := by
  obtain ⟨h1, h2, h3, h4⟩ := popT_n40 S.ar b
  refine ⟨⟨fun e he => h.en e (h2 e he), ?_, ?_⟩, h4⟩
  · show S.br ≤ n40 (popT S.ar b).1
    rw [h1]; exact h.br
  · show (popT S.ar b).2 ≤ S.signs.length
    rcases h3 with h3 | ⟨k, h3⟩
    · rw [h3]; exact hb
    · exact h.en _ h3
/-- what a token may be that is taken -/
theorem takes_cases {S : Dft} {t : VapcmBase.Tok} (h : S.takes t = true) : t = .sign 126 ∨ t = .sign 40 ∨ t = .sign 62 ∨ (t = .sign 41 ∧ 0 < S.br) ∨ ∃ n, t = .name n := by
  unfold Dft.takes at h
  split at h
  · rcases Bool.or_eq_true_iff.mp h with h | h
    · exact .inr (.inr (.inl (tokEq_sign h)))
    · obtain ⟨h1, h2⟩ := Bool.and_eq_true_iff.mp h
      exact .inr (.inr (.inr (.inl ⟨tokEq_sign h1, of_decide_eq_true h2⟩)))
  · rcases Bool.or_eq_true_iff.mp h with h | h
    · rcases Bool.or_eq_true_iff.mp h with h | h
      · exact .inl (tokEq_sign h)
      · exact .inr (.inl (tokEq_sign h))
    · cases t with
      | name n => exact .inr (.inr (.inr (.inr ⟨n, rfl⟩)))
      | num n => cases h
      | sign n => cases h
      | last => cases h
theorem put_41 {S : Dft} {k b : Nat} {r : List (Nat × Nat)} (h : popG S.ar = (k, b) :: r) : S.put (.sign 41) = ({ S with ar := r, br := S.br - 1 } : Dft).endPart b := by
  show (match popG S.ar with
    | (_, b) :: r => ({ S with ar := r, br := S.br - 1 } : Dft).endPart b
    | [] => S) = _
  rw [h]
theorem addKey_len (ks : List Bytes) (n : Bytes) : (addKey ks n).length ≤ ks.length + 1 := by
  unfold addKey
  split <;> simp
theorem put_ok {S : Dft} (h : DOk S) {t : VapcmBase.Tok} (ht : S.takes t = true) : DOk (S.put t) ∧ (S.put t).signs.length ≤ S.signs.length + 1 ∧ (S.put t).ks.length ≤ S.ks.length + 1 ∧ (S.put t).ar.length ≤ S.ar.length + 1 := by
  rcases takes_cases ht with rfl | rfl | rfl | ⟨rfl, hb⟩ | ⟨n, rfl⟩
  · refine ⟨⟨fun e he => ?_, ?_, ?_⟩, by simp [Dft.put], by simp [Dft.put], by simp [Dft.put]⟩
    · show e.2 ≤ (S.signs ++ [1]).length
      rw [List.length_append]
      rcases List.mem_cons.mp he with he | he
      · rw [he]; simp
      · have := h.en e he; omega
    · show S.br ≤ n40 ((126, S.signs.length) :: S.ar)
      rw [n40_cons, if_neg (by simp)]
      have := h.br; omega
    · show S.beg ≤ (S.signs ++ [1]).length
      rw [List.length_append]
      have := h.beg; omega
  · refine ⟨⟨fun e he => ?_, ?_, ?_⟩, by simp [Dft.put], by simp [Dft.put], by simp [Dft.put]⟩
    · show e.2 ≤ S.signs.length
      rcases List.mem_cons.mp he with he | he
      · rw [he]; exact Nat.le_refl _
      · exact h.en e he
    · show S.br + 1 ≤ n40 ((40, S.signs.length) :: S.ar)
      rw [n40_cons, if_pos rfl]
      have := h.br; omega
    · exact h.beg
  · have hl : (S.signs.insertIdx S.beg 0).length = S.signs.length + 1 := List.length_insertIdx_of_le_length h.beg 0
    refine ⟨⟨fun e he => ?_, ?_, ?_⟩, by show (S.signs.insertIdx S.beg 0).length ≤ _; omega, by simp [Dft.put], by simp [Dft.put]⟩
    · show e.2 ≤ (S.signs.insertIdx S.beg 0).length
      rw [hl]
      rcases List.mem_cons.mp he with he | he
      · rw [he]; have := h.beg; show S.beg ≤ _; omega
      · have := h.en e he; omega
    · show S.br ≤ n40 ((62, S.beg) :: S.ar)
      rw [n40_cons, if_neg (by simp)]
      have := h.br; omega
    · show S.beg ≤ (S.signs.insertIdx S.beg 0).length
      have := h.beg; omega
  · obtain ⟨k, b, r, e⟩ := popG_some (l := S.ar) (by have := h.br; omega)
    obtain ⟨g1, g2, g3, g4⟩ := popG_n40 e
    rw [put_41 e]
    have hb' : b ≤ S.signs.length := h.en _ g3
    have h2 : DOk ({ S with ar := r, br := S.br - 1 } : Dft) := ⟨fun e he => h.en e (g2 e he), by show S.br - 1 ≤ n40 r; have := h.br; omega, h.beg⟩
    obtain ⟨q1, q2⟩ := endPart_ok h2 hb'
    refine ⟨q1, by show S.signs.length ≤ _; omega, by show S.ks.length ≤ _; omega, ?_⟩
    have q2 : (Dft.endPart ({ S with ar := r, br := S.br - 1 } : Dft) b).ar.length ≤ r.length := q2
    omega
  · have h2 : DOk ({ S with signs := S.signs ++ [idx (addKey S.ks n) n + 2], ks := addKey S.ks n } : Dft) := ⟨fun e he => by
      show e.2 ≤ (S.signs ++ [idx (addKey S.ks n) n + 2]).length
      rw [List.length_append]
      have := h.en e he; omega, h.br, by
      show S.beg ≤ (S.signs ++ [idx (addKey S.ks n) n + 2]).length
      rw [List.length_append]
      have := h.beg; omega⟩
    obtain ⟨q1, q2⟩ := endPart_ok h2 (b := S.signs.length) (by show S.signs.length ≤ (S.signs ++ [idx (addKey S.ks n) n + 2]).length; simp)
    refine ⟨q1, by show (S.signs ++ [idx (addKey S.ks n) n + 2]).length ≤ _; simp, addKey_len _ _, ?_⟩
    have q2 : (Dft.endPart ({ S with signs := S.signs ++ [idx (addKey S.ks n) n + 2], ks := addKey S.ks n } : Dft) S.signs.length).ar.length ≤ S.ar.length := q2
    show (Dft.endPart ({ S with signs := S.signs ++ [idx (addKey S.ks n) n + 2], ks := addKey S.ks n } : Dft) S.signs.length).ar.length ≤ _
    omega
section
variable {P : Program} {w : World} {K : PySem.W.Frag} {mg : Str → Option Value} {base : Heap} {L : Lay}
def sp_bracket_end (L : Lay) : Sp := fun vs H Q _ => ∃ (g : GAd) (S : Dft) (k b : Nat) (r : List (Nat × Nat)), vs = [.ref g.a] ∧ DftAt H L g S ∧ popG S.ar = (k, b) :: r ∧ 0 < S.br ∧
  ∀ H', DftAt H' L g (({ S with ar := r, br := S.br - 1 } : Dft).endPart b) → Fr (GS g) H H' → Q .non H'
abbrev s_bracket_end : Stmt := inClass (top 48) 4
theorem sc_bracket_end : FnScope ["self"] ["self"] (defScope s_bracket_end) := ⟨rfl, rfl, rfl, by decide +kernel, rfl, by decide +kernel, by decide +kernel⟩
theorem ok_bracket_end {f : Addr} {fd : FuncData} (F : Fun K "put_bracket_end" "Draft.put_bracket_end" s_bracket_end f fd) (T : Txt K mg L) (h_end_part : HasMeth P w K mg base CX0 1 L.Draft "end_part" ["self", "begin"] (sp_end_part L)) :
    FnOk P w K mg base CX0 2 f fd ["self"] (sp_bracket_end L) := by
  refine F.ok sc_bracket_end (fun vs H Q E h => ?_) (fun cdv A outer s H vs Q E hr h => ?_)
  · obtain ⟨g, S, k, b, r, rfl, _⟩ := h
    rfl
  · obtain ⟨f1, fd1, M_Draft_end_part, b_Draft_end_part, G_Draft_end_part⟩ := h_end_part
    refine ⟨_, pss_cons (ps_while PassesOwn.never (pt_cmpR op_eq (pe_ix ix_tup (pe_ix ix_list (pe_fld (pv 0) rfl) (pe_un un_neg pe_int) (fun _ _ => rfl)) pe_int (fun _ _ => rfl)) pe_str (nomark _))
        (pss_one (ps_expr (pe_bm0 PySem.F.plainAttrs_list PySem.F.slot_list_pop PySem.F.type_list_pop mt_pop (pe_fld (pv 0) rfl)))))
      (pss_cons (ps_fldaug (pv 0) pe_int in_sub)
      (pss_one (ps_expr (pe_meth (pv 0) T.cDraft M_Draft_end_part G_Draft_end_part (hr.mono (by decide)) b_Draft_end_part .nil pass0 (pa_cons (pe_ix ix_tup (pe_bm0 PySem.F.plainAttrs_list PySem.F.slot_list_pop PySem.F.type_list_pop mt_pop (pe_fld (pv 0) rfl)) pe_int (fun _ _ => rfl)) pa_nil))))), ?_⟩
    obtain ⟨g, S, k, b, r, rfl, hD, hp, hb, q⟩ := h
    refine ⟨fun m σ H' => ∃ (ar : List (Nat × Nat)), σ = [some (.ref g.a)] ∧ DftAt H' L g { S with ar := ar } ∧ Fr (GS g) H H' ∧ popG ar = (k, b) :: r ∧ m = ar.length, ⟨_, S.ar, rfl, hD, Fr.refl _ _, hp, rfl⟩, ?_⟩
    rintro m σ H' ⟨ar, rfl, hD', fr, hpop, rfl⟩
    cases ar with
    | nil => cases hpop
    | cons p us0 =>
      obtain ⟨q1, us, h1, hq, hD2, fr2, hq2⟩ := hD'.pop rfl
      refine ⟨_, rfl, g.a, _, _, _, _, rfl, hD'.obj, T.cDraft, T.nDraft_around, dft_around _ _ _ _ _ _, _, rfl, g.ra, _, _, _, rfl, rfl, SqL.of h1, atI_last, q1, _, 0, _, rfl, rfl, SqT.of hq, atI_nat (j := 0) rfl, rfl, _, rfl, ?_⟩
      rw [sgn_eq p.1 62 (s := Str.ofString ">") (by decide +kernel)]
      obtain ⟨k1, x1⟩ := p
      by_cases c1 : k1 = 62
      · subst c1
        refine iteT' (decide_eq_true rfl) ?_
        refine ⟨fun σ' H2 => ∃ m', m' < ((62, x1) :: us0).length ∧ ∃ (ar : List (Nat × Nat)), σ' = [some (.ref g.a)] ∧ DftAt H2 L g { S with ar := ar } ∧ Fr (GS g) H H2 ∧ popG ar = (k, b) :: r ∧ m' = ar.length, fun _ _ z => z, ?_⟩
        refine ⟨_, rfl, g.a, _, _, _, _, rfl, hD'.obj, T.cDraft, T.nDraft_around, dft_around _ _ _ _ _ _, .inl ⟨rfl, _, SqL.of h1⟩, g.ra, _, _, rfl, rfl, h1, last_rev _ _, ?_⟩
        rw [drop_rev]
        exact ⟨us0.length, by simp, us0, rfl, hD2, fr.trans fr2, by rw [← hpop, popG_62], rfl⟩
      · refine iteF' (decide_eq_false c1) ?_
        rw [popG_ne c1] at hpop
        cases hpop
        -- brackets -= 1
        refine ⟨_, rfl, g.a, _, _, _, _, rfl, hD'.obj, T.cDraft, T.nDraft_brackets, dft_brackets _ _ _ _ _ _, _, _, rfl, rfl, _, _, hD'.obj, (by show 6 < 1000; decide), ?_⟩
        have ebr : V.int ((S.br : Int) - 1) = iv (S.br - 1) := by
          show V.int _ = V.int _
          congr 1
          omega
        show (tDrop (tMeth L.Draft "end_part" (sp_end_part L) [] E0 (tVar 0) (tCons (tOp (rIxT K) (tBM0 K "list" rPop (tFld K (tVar 0) "around")) (tC (V.int 1))) tNil)) { nx := fun _ H' => Q .non H', rt := Q }) [some (.ref g.a)] (upd H' g.a (.ins L.Draft g.dx (putF "brackets" (V.int ((S.br : Int) - 1)) (dftF g.sa g.ua g.ra S.br S.ended S.beg))))
        rw [ebr, dft_put_br]
        have kp : ∀ c o, H' c = some o → c ≠ g.a → upd H' g.a (.ins L.Draft g.dx (dftF g.sa g.ua g.ra (S.br - 1) S.ended S.beg)) c = some o := fun c o z n => by rw [upd_ne n]; exact z
        obtain ⟨vs, v1, v2⟩ := hD'.ar
        have hD3 : DftAt (upd H' g.a (.ins L.Draft g.dx (dftF g.sa g.ua g.ra (S.br - 1) S.ended S.beg))) L g { S with ar := (k, b) :: r, br := S.br - 1 } :=
          ⟨upd_same, kp _ _ hD'.sg (ne_of hD'.sg hD'.obj (by intro z; cases z)), kp _ _ hD'.un (ne_of hD'.un hD'.obj (by intro z; cases z)), ⟨vs, kp _ _ v1 (ne_of v1 hD'.obj (by intro z; cases z)), v2.same fun b xs z => kp _ _ z (ne_of z hD'.obj (by intro z; cases z))⟩, hD'.ne⟩
        obtain ⟨q3, us3, w1, w2, hD4, fr4, w3⟩ := hD3.pop rfl
        refine ⟨_, rfl, g.a, _, _, rfl, hD3.obj, dft_none _ _ _ _ _ _ (by decide +kernel) (by decide +kernel) (by decide +kernel) (by decide +kernel) (by decide +kernel) (by decide +kernel), _, rfl, g.a, _, _, _, _, rfl, hD3.obj, T.cDraft, T.nDraft_around, dft_around _ _ _ _ _ _, .inl ⟨rfl, _, SqL.of w1⟩, g.ra, _, _, rfl, rfl, w1, last_rev _ _, ?_⟩
        rw [drop_rev]
        refine ⟨q3, _, 1, _, rfl, rfl, SqT.of w3, atI_nat (j := 1) rfl, ?_⟩
        refine ⟨g, _, b, rfl, hD4, fun H5 hD5 fr5 => ?_⟩
        have fk : Fr (GS g) H' (upd H' g.a (.ins L.Draft g.dx (dftF g.sa g.ua g.ra (S.br - 1) S.ended S.beg))) := fun c o z n => kp c o z fun e => n (.inl e)
        exact q H5 hD5 (fr.trans (fk.trans (fr4.trans fr5)))
end
end Dr

namespace Dr
open PySem PySem.Spec PyProof.Rows L2
open VapcmBase (Bytes isBlank isLetter isDigit token Fault PTok Toks tokEq taken takeName next here PName)
section
variable {P : Program} {w : World} {K : PySem.W.Frag} {mg : Str → Option Value} {base : Heap} {L : Lay}
theorem DftAt.push {H : Hp} {L : Lay} {g : GAd} {S : Dft} {vs : List V} {q : Addr} {k n : Nat} (h : DftAt H L g S) (hv : H g.ra = some (.lst vs)) (hq : H q = some (.tup [.str (SX.S [k]), iv n])) :
    DftAt (upd H g.ra (.lst (vs ++ [.ref q]))) L g { S with ar := (k, n) :: S.ar } := by
  obtain ⟨us, h1, h2⟩ := h.ar
  rw [hv] at h1
  cases h1
  have kp : ∀ b o, H b = some o → b ≠ g.ra → upd H g.ra (.lst (us.reverse ++ [.ref q])) b = some o := fun b o z n => by rw [upd_ne n]; exact z
  have tk : ∀ b xs, H b = some (.tup xs) → upd H g.ra (.lst (us.reverse ++ [.ref q])) b = some (.tup xs) := fun b xs z => kp b _ z (ne_of z hv (by intro z; cases z))
  exact ⟨kp _ _ h.obj (ne_of h.obj hv (by intro z; cases z)), kp _ _ h.sg h.ne, kp _ _ h.un (ne_of h.un hv (by intro z; cases z)), ⟨.ref q :: us, by rw [upd_same, List.reverse_cons], .cons (tk _ _ hq) (h2.same tk)⟩, h.ne⟩
theorem DftAt.setS {H : Hp} {L : Lay} {g : GAd} {S : Dft} (h : DftAt H L g S) {l : List Nat} {xs : List V} (e : xs = l.map iv) : DftAt (upd H g.sa (.lst xs)) L g { S with signs := l } := by
  subst e
  obtain ⟨us, h1, h2⟩ := h.ar
  have kp : ∀ b o, H b = some o → b ≠ g.sa → upd H g.sa (.lst (l.map iv)) b = some o := fun b o z n => by rw [upd_ne n]; exact z
  exact ⟨kp _ _ h.obj (ne_of h.obj h.sg (by intro z; cases z)), upd_same, kp _ _ h.un (ne_of h.un h.sg (by intro z; cases z)), ⟨us, kp _ _ h1 (Ne.symm h.ne), h2.same fun b xs z => kp _ _ z (ne_of z h.sg (by intro z; cases z))⟩, h.ne⟩
theorem DftAt.setU {H : Hp} {L : Lay} {g : GAd} {S : Dft} (h : DftAt H L g S) {l : List Bytes} {kvs : List (Key × V)} (e : kvs = numsFrom 2 l) : DftAt (upd H g.ua (.dK kvs)) L g { S with ks := l } := by
  subst e
  obtain ⟨us, h1, h2⟩ := h.ar
  have kp : ∀ b o, H b = some o → b ≠ g.ua → upd H g.ua (.dK (numsFrom 2 l)) b = some o := fun b o z n => by rw [upd_ne n]; exact z
  exact ⟨kp _ _ h.obj (ne_of h.obj h.un (by intro z; cases z)), kp _ _ h.sg (ne_of h.sg h.un (by intro z; cases z)), upd_same, ⟨us, kp _ _ h1 (ne_of h1 h.un (by intro z; cases z)), h2.same fun b xs z => kp _ _ z (ne_of z h.un (by intro z; cases z))⟩, h.ne⟩
theorem DftAt.setO {H : Hp} {L : Lay} {g : GAd} {S : Dft} (h : DftAt H L g S) {br : Nat} {e : Bool} {b : Nat} {fs : List (Str × V)} (ef : fs = dftF g.sa g.ua g.ra br e b) : DftAt (upd H g.a (.ins L.Draft g.dx fs)) L g { S with br := br, ended := e, beg := b } := by
  subst ef
  obtain ⟨us, h1, h2⟩ := h.ar
  have kp : ∀ c o, H c = some o → c ≠ g.a → upd H g.a (.ins L.Draft g.dx (dftF g.sa g.ua g.ra br e b)) c = some o := fun b o z n => by rw [upd_ne n]; exact z
  exact ⟨upd_same, kp _ _ h.sg (ne_of h.sg h.obj (by intro z; cases z)), kp _ _ h.un (ne_of h.un h.obj (by intro z; cases z)), ⟨us, kp _ _ h1 (ne_of h1 h.obj (by intro z; cases z)), h2.same fun b xs z => kp _ _ z (ne_of z h.obj (by intro z; cases z))⟩, h.ne⟩
theorem fr_upd {g : GAd} {H : Hp} {a : Addr} {o : HO} (h : GS g a) : Fr (GS g) H (upd H a o) := fun b u z n => by
  have ne : b ≠ a := fun e => n (by rw [e]; exact h)
  rw [upd_ne ne]
  exact z
theorem numsFrom_idx : ∀ {ns : List Bytes} {i : Nat} {n : Bytes}, n ∈ ns → valV (numsFrom i ns) (nameK n) = some (iv (i + idx ns n))
  | m :: r, i, n, h => by
    rw [numsFrom]
    by_cases e : m = n
    · subst e
      rw [valV_pos rfl]
      simp [idx, List.findIdx_cons]
    · have e2 : (m == n) = false := by rw [beq_eq_false_iff_ne]; exact e
      have h' : n ∈ r := by
        rcases List.mem_cons.mp h with h | h
        · exact absurd h.symm e
        · exact h
      rw [valV_neg (fun z => e (nameK_inj z)), numsFrom_idx h']
      have : idx (m :: r) n = idx r n + 1 := by
        unfold idx
        rw [List.findIdx_cons, e2]
        rfl
      rw [this]
      congr 2
      omega
theorem fr_new {g : GAd} {H : Hp} {a : Addr} {o : HO} (h : H a = none) : Fr (GS g) H (upd H a o) := Fr.of (same_new h)
def sp_put (L : Lay) : Sp := fun vs H Q _ => ∃ (g : GAd) (S : Dft) (x : Word) (t : PTok), vs = [.ref g.a, .str (SX.S (nb x.1))] ∧ DftAt H L g S ∧ DOk S ∧ TR x t ∧ S.takes t.tok = true ∧ S.signs.length ≤ 20000 ∧ S.ar.length ≤ 1000 ∧ S.ks.length ≤ 20000 ∧
  ∀ H', DftAt H' L g (S.put t.tok) → Fr (GS g) H H' → Q .non H'
abbrev s_Draft_put : Stmt := inClass (top 48) 3
theorem sc_Draft_put : FnScope ["self", "word"] ["self", "word"] (defScope s_Draft_put) := ⟨rfl, rfl, rfl, by decide +kernel, rfl, by decide +kernel, by decide +kernel⟩
theorem ok_Draft_put {f : Addr} {fd : FuncData} (F : Fun K "put" "Draft.put" s_Draft_put f fd) (T : Txt K mg L) (h_unknown_sign : HasDef P w K mg base CX0 1 "unknown_sign" ["number"] sp_unknown_sign)
    (h_end_part : HasMeth P w K mg base CX0 1 L.Draft "end_part" ["self", "begin"] (sp_end_part L)) (h_bracket_end : HasMeth P w K mg base CX0 2 L.Draft "put_bracket_end" ["self"] (sp_bracket_end L)) : FnOk P w K mg base CX0 3 f fd ["self", "word"] (sp_put L) := by
  refine F.ok sc_Draft_put (fun vs H Q E h => ?_) (fun cdv A outer s H vs Q E hr h => ?_)
  · obtain ⟨g, S, x, t, rfl, _⟩ := h
    rfl
  · obtain ⟨t0, g_IMPLIES⟩ := T.vIMPLIES
    obtain ⟨t1, g_DENIES⟩ := T.vDENIES
    have n_len := T.n_len
    obtain ⟨f_unknown_sign, fd_unknown_sign, m_unknown_sign, k_unknown_sign, b_unknown_sign, G_unknown_sign⟩ := h_unknown_sign
    obtain ⟨f1, fd1, M_Draft_end_part, b_Draft_end_part, G_Draft_end_part⟩ := h_end_part
    obtain ⟨f2, fd2, M_Draft_put_bracket_end, b_Draft_put_bracket_end, G_Draft_put_bracket_end⟩ := h_bracket_end
    refine ⟨_, pss_one (ps_if (pt_cmpR op_eq (pv 1) pe_str (nomark _))
        (pss_cons (ps_expr (pe_bm PySem.F.plainAttrs_list PySem.F.slot_list_append PySem.F.type_list_append mt_append (pe_fld (pv 0) rfl) (pa_cons (pe_tup (pa_cons (pv 1) (pa_cons (pe_callB call_len_seq (by rfl) n_len PySem.boot_len (pa_cons (pe_fld (pv 0) rfl) pa_nil)) pa_nil))) pa_nil)))
          (pss_one (ps_expr (pe_bm PySem.F.plainAttrs_list PySem.F.slot_list_append PySem.F.type_list_append mt_append (pe_fld (pv 0) rfl) (pa_cons (pe_gi g_DENIES) pa_nil)))))
        (pss_one (ps_if (pt_cmpR op_eq (pv 1) pe_str (nomark _))
            (pss_cons (ps_expr (pe_bm PySem.F.plainAttrs_list PySem.F.slot_list_append PySem.F.type_list_append mt_append (pe_fld (pv 0) rfl) (pa_cons (pe_tup (pa_cons (pv 1) (pa_cons (pe_callB call_len_seq (by rfl) n_len PySem.boot_len (pa_cons (pe_fld (pv 0) rfl) pa_nil)) pa_nil))) pa_nil)))
              (pss_one (ps_fldaug (pv 0) pe_int in_add)))
            (pss_one (ps_if (pt_cmpR op_eq (pv 1) pe_str (nomark _))
                (pss_cons (ps_expr (pe_bm PySem.F.plainAttrs_list PySem.F.slot_list_append PySem.F.type_list_append mt_append (pe_fld (pv 0) rfl) (pa_cons (pe_tup (pa_cons (pv 1) (pa_cons (pe_fld (pv 0) rfl) pa_nil))) pa_nil)))
                  (pss_cons (ps_expr (pe_bm PySem.F.plainAttrs_list PySem.F.slot_list_insert PySem.F.type_list_insert mt_insert (pe_fld (pv 0) rfl) (pa_cons (pe_fld (pv 0) rfl) (pa_cons (pe_gi g_IMPLIES) pa_nil))))
                  (pss_one (ps_fld (pv 0) pe_bl rfl))))
                (pss_one (ps_if (pt_cmpR op_eq (pv 1) pe_str (nomark _))
                    (pss_one (ps_expr (pe_meth0 (pv 0) T.cDraft M_Draft_put_bracket_end G_Draft_put_bracket_end (hr.mono (by decide)) b_Draft_put_bracket_end .nil pass0)))
                    (pss_cons (ps_expr (pe_bm PySem.F.plainAttrs_list PySem.F.slot_list_append PySem.F.type_list_append mt_append (pe_fld (pv 0) rfl) (pa_cons (pe_dsetd (pe_fld (pv 0) rfl) (pv 1) (pe_call G_unknown_sign (hr.mono (by decide)) rfl m_unknown_sign k_unknown_sign b_unknown_sign .nil pass0 (pa_cons (pe_callB call_lenD (by rfl) n_len PySem.boot_len (pa_cons (pe_fld (pv 0) rfl) pa_nil)) pa_nil)) ⟨rfl, rfl, rfl, rfl⟩) pa_nil)))
                      (pss_one (ps_expr (pe_meth (pv 0) T.cDraft M_Draft_end_part G_Draft_end_part (hr.mono (by decide)) b_Draft_end_part .nil pass0 (pa_cons (pe_op op_sub (pe_callB call_len_seq (by rfl) n_len PySem.boot_len (pa_cons (pe_fld (pv 0) rfl) pa_nil)) pe_int) pa_nil)))))))))))), ?_⟩
    obtain ⟨g, S, x, t, rfl, hD, hO, hT, htk, hz1, hz2, hz3, k⟩ := h
    have w62 := wd_is hT 62 (by decide +kernel) (s := Str.ofString ">") (by decide +kernel)
    have w41 := wd_is hT 41 (by decide +kernel) (s := Str.ofString ")") (by decide +kernel)
    have w126 := wd_is hT 126 (by decide +kernel) (s := Str.ofString "~") (by decide +kernel)
    have w40 := wd_is hT 40 (by decide +kernel) (s := Str.ofString "(") (by decide +kernel)
    obtain ⟨p, tk⟩ := t
    obtain ⟨vs, v1, v2⟩ := hD.ar
    have vl : vs.reverse.length = S.ar.length := by rw [List.length_reverse, v2.length]
    have sgl : ∀ {c : Nat}, TR x ⟨p, .sign c⟩ → nb x.1 = [c] := fun h => by
      obtain ⟨_, b, h1, h2, _⟩ := h
      rw [h1, ← h2]
      rfl
    have put1 : ∀ (q : Addr) (n c : Nat), H q = none → nb x.1 = [c] → DftAt (upd (upd H q (.tup [.str (SX.S (nb x.1)), iv n])) g.ra (.lst (vs.reverse ++ [.ref q]))) L g { S with ar := (c, n) :: S.ar } ∧ Fr (GS g) H (upd (upd H q (.tup [.str (SX.S (nb x.1)), iv n])) g.ra (.lst (vs.reverse ++ [.ref q]))) := fun q n c nq e => by
      have s1 : Same H (upd H q (.tup [.str (SX.S (nb x.1)), iv n])) := same_new nq
      refine ⟨(hD.same s1).push (s1 _ _ v1) (by rw [upd_same, e]), (Fr.of s1).trans (fr_upd (.inr (.inr (.inr rfl))))⟩
    refine ⟨_, rfl, rfl, _, rfl, ?_⟩
    rw [w126]
    rcases takes_cases htk with rfl | rfl | rfl | ⟨rfl, hb⟩ | ⟨n, rfl⟩
    · refine iteT' rfl ?_
      have e := sgl hT
      refine ⟨_, rfl, g.a, _, _, _, _, rfl, hD.obj, T.cDraft, T.nDraft_around, dft_around _ _ _ _ _ _, .inl ⟨rfl, _, SqL.of v1⟩, _, rfl, _, rfl, g.a, _, _, _, _, rfl, hD.obj, T.cDraft, T.nDraft_signs, dft_signs _ _ _ _ _ _, g.sa, _, rfl, .inl (SqL.of hD.sg), (by show 2 ≤ sizeLine; decide), fun q nq => ?_⟩
      rw [List.length_map]
      obtain ⟨d1, fr1⟩ := put1 q S.signs.length 126 nq e
      refine ⟨g.ra, _, _, rfl, rfl, (same_new nq) _ _ v1, (by rw [vl]; exact fitslt_of (by omega)), ?_⟩
      refine ⟨_, rfl, g.a, _, _, _, _, rfl, d1.obj, T.cDraft, T.nDraft_signs, dft_signs _ _ _ _ _ _, .inl ⟨rfl, _, SqL.of d1.sg⟩, g.sa, _, _, rfl, rfl, d1.sg, (by rw [List.length_map]; exact fitslt_of (by show S.signs.length ≤ _; omega)), ?_⟩
      exact k _ (d1.setS (l := S.signs ++ [1]) (by simp)) (fr1.trans (fr_upd (.inr (.inl rfl))))
    · refine iteF' rfl ?_
      refine ⟨_, rfl, rfl, _, rfl, ?_⟩
      rw [w40]
      refine iteT' rfl ?_
      have e := sgl hT
      refine ⟨_, rfl, g.a, _, _, _, _, rfl, hD.obj, T.cDraft, T.nDraft_around, dft_around _ _ _ _ _ _, .inl ⟨rfl, _, SqL.of v1⟩, _, rfl, _, rfl, g.a, _, _, _, _, rfl, hD.obj, T.cDraft, T.nDraft_signs, dft_signs _ _ _ _ _ _, g.sa, _, rfl, .inl (SqL.of hD.sg), (by show 2 ≤ sizeLine; decide), fun q nq => ?_⟩
      rw [List.length_map]
      obtain ⟨d1, fr1⟩ := put1 q S.signs.length 40 nq e
      refine ⟨g.ra, _, _, rfl, rfl, (same_new nq) _ _ v1, (by rw [vl]; exact fitslt_of (by omega)), ?_⟩
      refine ⟨_, rfl, g.a, _, _, _, _, rfl, d1.obj, T.cDraft, T.nDraft_brackets, dft_brackets _ _ _ _ _ _, _, _, rfl, rfl, _, _, d1.obj, (by show 6 < 1000; decide), ?_⟩
      exact k _ (d1.setO (dft_put_br g.sa g.ua g.ra S.br S.ended S.beg (S.br + 1))) (fr1.trans (fr_upd (.inl rfl)))
    · refine iteF' rfl ?_
      refine ⟨_, rfl, rfl, _, rfl, ?_⟩
      rw [w40]
      refine iteF' rfl ?_
      refine ⟨_, rfl, rfl, _, rfl, ?_⟩
      rw [w62]
      refine iteT' rfl ?_
      have e := sgl hT
      refine ⟨_, rfl, g.a, _, _, _, _, rfl, hD.obj, T.cDraft, T.nDraft_around, dft_around _ _ _ _ _ _, .inl ⟨rfl, _, SqL.of v1⟩, _, rfl, _, rfl, g.a, _, _, _, _, rfl, hD.obj, T.cDraft, T.nDraft_begin, dft_begin _ _ _ _ _ _, (by show 2 ≤ sizeLine; decide), fun q nq => ?_⟩
      obtain ⟨d1, fr1⟩ := put1 q S.beg 62 nq e
      have hbg := hO.beg
      refine ⟨g.ra, _, _, rfl, rfl, (same_new nq) _ _ v1, (by rw [vl]; exact fitslt_of (by omega)), ?_⟩
      refine ⟨_, rfl, g.a, _, _, _, _, rfl, d1.obj, T.cDraft, T.nDraft_signs, dft_signs _ _ _ _ _ _, .inl ⟨rfl, _, SqL.of d1.sg⟩, _, rfl, g.a, _, _, _, _, rfl, d1.obj, T.cDraft, T.nDraft_begin, dft_begin _ _ _ _ _ _, g.sa, _, _, _, rfl, rfl, d1.sg, (by rw [List.length_map]; exact fitslt_of (by show S.signs.length ≤ _; omega)), by show (0 : Int) ≤ (S.beg : Int); omega, by show (S.beg : Int) < 2 ^ 63; omega, ?_⟩
      have d2 := d1.setS (l := S.signs.insertIdx S.beg 0) (xs := (S.signs.map iv).take ((S.beg : Int)).toNat ++ [V.int 0] ++ (S.signs.map iv).drop ((S.beg : Int)).toNat) (by
        have ei := insertIdx_mid (S.signs.take S.beg) (S.signs.drop S.beg) 0
        rw [List.take_append_drop, List.length_take, Nat.min_eq_left hbg] at ei
        rw [Int.toNat_natCast, ← List.map_take, ← List.map_drop, ei]
        simp)
      refine ⟨_, rfl, g.a, _, _, _, rfl, d2.obj, T.cDraft, T.nDraft_ended, (by show 6 < 1000; decide), ?_⟩
      exact k _ (d2.setO (dft_put_ended g.sa g.ua g.ra S.br S.ended S.beg false)) ((fr1.trans (fr_upd (.inr (.inl rfl)))).trans (fr_upd (.inl rfl)))
    · refine iteF' rfl ?_
      refine ⟨_, rfl, rfl, _, rfl, ?_⟩
      rw [w40]
      refine iteF' rfl ?_
      refine ⟨_, rfl, rfl, _, rfl, ?_⟩
      rw [w62]
      refine iteF' rfl ?_
      refine ⟨_, rfl, rfl, _, rfl, ?_⟩
      rw [w41]
      refine iteT' rfl ?_
      obtain ⟨j, b, r, e⟩ := popG_some (l := S.ar) (by have := hO.br; omega)
      refine ⟨_, rfl, g.a, _, _, rfl, hD.obj, dft_none _ _ _ _ _ _ (by decide +kernel) (by decide +kernel) (by decide +kernel) (by decide +kernel) (by decide +kernel) (by decide +kernel), g, S, j, b, r, rfl, hD, e, hb, fun H' h1 h2 => ?_⟩
      exact k H' (by rw [put_41 e]; exact h1) h2
    · refine iteF' rfl ?_
      refine ⟨_, rfl, rfl, _, rfl, ?_⟩
      rw [w40]
      refine iteF' rfl ?_
      refine ⟨_, rfl, rfl, _, rfl, ?_⟩
      rw [w62]
      refine iteF' rfl ?_
      refine ⟨_, rfl, rfl, _, rfl, ?_⟩
      rw [w41]
      refine iteF' rfl ?_
      have ex : x.1 = n := hT.2.1
      refine ⟨_, rfl, g.a, _, _, _, _, rfl, hD.obj, T.cDraft, T.nDraft_signs, dft_signs _ _ _ _ _ _, .inl ⟨rfl, _, SqL.of hD.sg⟩, ?_⟩
      refine ⟨_, rfl, g.a, _, _, _, _, rfl, hD.obj, T.cDraft, T.nDraft_unknowns, dft_unknowns _ _ _ _ _ _, g.ua, rfl, .inl ⟨_, .inl hD.un⟩, _, rfl, ?_⟩
      refine ⟨_, rfl, g.a, _, _, _, _, rfl, hD.obj, T.cDraft, T.nDraft_unknowns, dft_unknowns _ _ _ _ _ _, g.ua, _, rfl, hD.un, _, rfl, _, nameK n, hD.un, by rw [ex]; rfl, (by rw [numsFrom_length]; exact fitslt_of (by omega)), ?_⟩
      -- behind the sign
      have fin : ∀ (H1 : Hp) (ks : List Bytes) (y : Nat) (v : V), v = iv (y + 2) → DftAt H1 L g { S with ks := ks } → Fr (GS g) H H1 → ks = addKey S.ks n → y = idx (addKey S.ks n) n →
          rAppend (.ref g.sa) [v] H1 fun _ H3 => tDrop (tMeth L.Draft "end_part" (sp_end_part L) [] E0 (tVar 0) (tCons (tOp (rI0 fun i j => V.int (i - j)) (tCB (fun xs H Q => ∃ a ys, xs = [V.ref a] ∧ (SqL K H a ys ∨ SqT K H a ys) ∧ Q (V.int ys.length) H) (tCons (tFld K (tVar 0) "signs") tNil)) (tC (V.int 1))) tNil)) { nx := fun _ H' => Q .non H', rt := Q } [some (.ref g.a), some (.str (SX.S (nb x.1)))] H3 := by
        intro H1 ks y v ev d1 fr1 ek ey
        subst ev
        refine ⟨g.sa, _, _, rfl, rfl, d1.sg, (by rw [List.length_map]; exact fitslt_of (by show S.signs.length ≤ _; omega)), ?_⟩
        have d2 := d1.setS (l := S.signs ++ [y + 2]) (xs := S.signs.map iv ++ [iv (y + 2)]) (by simp)
        refine ⟨_, rfl, g.a, _, _, rfl, d2.obj, dft_none _ _ _ _ _ _ (by decide +kernel) (by decide +kernel) (by decide +kernel) (by decide +kernel) (by decide +kernel) (by decide +kernel), _, rfl, g.a, _, _, _, _, rfl, d2.obj, T.cDraft, T.nDraft_signs, dft_signs _ _ _ _ _ _, g.sa, _, rfl, .inl (SqL.of d2.sg), _, _, rfl, rfl, ?_⟩
        refine ⟨g, _, S.signs.length, ?_, d2, fun H5 h5 fr5 => k H5 ?_ ((fr1.trans (fr_upd (.inr (.inl rfl)))).trans fr5)⟩
        · have : (((S.signs ++ [y + 2]).map iv).length : Int) - 1 = (S.signs.length : Int) := by simp
          show [V.ref g.a, V.int ((((S.signs ++ [y + 2]).map iv).length : Int) - 1)] = _
          rw [this]
        · have e5 : S.put (.name n) = ({ S with signs := S.signs ++ [y + 2], ks := ks } : Dft).endPart S.signs.length := by
            rw [ek, ey]
            rfl
          show DftAt H5 L g (S.put (.name n))
          rw [e5]
          exact h5
      refine ⟨fun v hv => ?_, fun hn => ?_⟩
      · have hin : n ∈ S.ks := by
          by_cases c : n ∈ S.ks
          · exact c
          · rw [numsFrom_new c] at hv; cases hv
        rw [numsFrom_idx hin] at hv
        cases hv
        have ea : addKey S.ks n = S.ks := by unfold addKey; rw [if_pos (List.contains_iff_mem.mpr hin)]
        exact fin H S.ks (idx S.ks n) _ (by rw [Nat.add_comm]) hD (Fr.refl _ _) ea.symm (by rw [ea])
      · have hout : n ∉ S.ks := fun c => by rw [numsFrom_idx c] at hn; cases hn
        have ea : addKey S.ks n = S.ks ++ [n] := by unfold addKey; rw [if_neg (fun z => hout (List.contains_iff_mem.mp z))]
        have d1 := hD.setU (l := S.ks ++ [n]) (kvs := putK (numsFrom 2 S.ks) (nameK n) (.int (2 + ((numsFrom 2 S.ks).length : Int)))) (by
          rw [putK_new _ hn, numsFrom_snoc, numsFrom_length]
          rfl)
        exact fin _ (S.ks ++ [n]) S.ks.length _ (by rw [numsFrom_length]; show V.int _ = V.int _; congr 1; omega) d1 (fr_upd (.inr (.inr (.inl rfl)))) ea.symm (by rw [ea, idx_new hout])
end
end Dr

namespace Dr
open PySem PySem.Spec PyProof.Rows L2
open VapcmBase (Bytes isBlank isLetter isDigit token Fault PTok Toks tokEq taken takeName next here PName wrong)
section
variable {P : Program} {w : World} {K : PySem.W.Frag} {mg : Str → Option Value} {base : Heap} {L : Lay}
def sp_read_formula (L : Lay) : Sp := fun vs H Q E => ∃ (c : CAd) (l : Toks), vs = [.ref c.a] ∧ CurAt H L c l ∧ EndsL l ∧ l.length ≤ 10001 ∧
  (∀ x, goF l = .ok x → ∀ H' p, CurAt H' L c x.2 → EndsL x.2 → Fr (CS c) H H' → H p = none → H' p = some (.lst (x.1.map iv)) → Q (.ref p) H') ∧ (∀ f, goF l = .error f → FltE L E (CS c) H f)
abbrev s_read_formula : Stmt := top 49
theorem sc_read_formula : FnScope ["cursor", "start", "draft"] ["cursor"] (defScope s_read_formula) := ⟨rfl, rfl, rfl, by decide +kernel, rfl, by decide +kernel, by decide +kernel⟩
theorem in_opens {x : Word} {t : PTok} (h : TR x t) : inV (V.str (SX.S (nb x.1))) [.str "~", .str "(", .str ">"] = opens t.tok := by
  have k1 : (Str.ofString "~") = SX.S (nb [126]) := by decide +kernel
  have k2 : (Str.ofString "(") = SX.S (nb [40]) := by decide +kernel
  have k3 : (Str.ofString ">") = SX.S (nb [62]) := by decide +kernel
  have e : ∀ (b : UInt8), isSig b = true → (SX.S (nb [b]) == SX.S (nb x.1)) = tokEq t.tok (.sign b.toNat) := fun b hb => by
    rw [nbS_eq, Bool.eq_iff_iff, beq_iff_eq, ← h.sign hb]
    exact ⟨fun z => z.symm, fun z => z.symm⟩
  show ((Str.ofString "~" == SX.S (nb x.1)) || ((Str.ofString "(" == SX.S (nb x.1)) || ((Str.ofString ">" == SX.S (nb x.1)) || false))) = _
  rw [k1, k2, k3, e 126 (by decide +kernel), e 40 (by decide +kernel), e 62 (by decide +kernel), Bool.or_false]
  unfold opens
  rw [Bool.or_assoc]
  rfl
theorem ok_read_formula {f : Addr} {fd : FuncData} (F : Fun K "read_formula" "read_formula" s_read_formula f fd) (T : Txt K mg L) (TF : PySem.FltX.FltTxt K mg L.Fault L.FaultI)
    (h_word : HasMeth P w K mg base CX0 1 L.Cursor "word" ["self"] (sp_word L)) (h_here : HasMeth P w K mg base CX0 1 L.Cursor "here" ["self"] (sp_here L)) (h_go_on : HasMeth P w K mg base CX0 1 L.Cursor "go_on" ["self"] (sp_go_on L))
    (h_Draft : HasMake P w K mg base CX0 1 "Draft" L.Draft ["self"] (sp_Draft_init L)) (h_is_whole : HasMeth P w K mg base CX0 1 L.Draft "is_whole" ["self"] (sp_is_whole L))
    (h_takes : HasMeth P w K mg base CX0 2 L.Draft "takes" ["self", "word"] (sp_takes L)) (h_put : HasMeth P w K mg base CX0 3 L.Draft "put" ["self", "word"] (sp_put L)) :
    FnOk P w K mg base (L2.CX P w) 4 f fd ["cursor"] (sp_read_formula L) := by
  refine F.okX sc_read_formula (fun vs H Q E h => ?_) (fun cdv A outer s H vs Q E hr h => ?_)
  · obtain ⟨c, l, rfl, _⟩ := h
    rfl
  · have n_len := T.n_len
    obtain ⟨t0, g_MOST_AROUND⟩ := T.vMOST_AROUND
    obtain ⟨t1, g_MOST_SIGNS⟩ := T.vMOST_SIGNS
    obtain ⟨f1, fd1, M_Cursor_word, b_Cursor_word, G_Cursor_word⟩ := h_word
    obtain ⟨f2, fd2, M_Cursor_here, b_Cursor_here, G_Cursor_here⟩ := h_here
    obtain ⟨f3, fd3, M_Cursor_go_on, b_Cursor_go_on, G_Cursor_go_on⟩ := h_go_on
    obtain ⟨f_Draft, fd_Draft, MK_Draft, m_Draft, b_Draft, G_Draft⟩ := h_Draft
    obtain ⟨f4, fd4, M_Draft_is_whole, b_Draft_is_whole, G_Draft_is_whole⟩ := h_is_whole
    obtain ⟨f5, fd5, M_Draft_takes, b_Draft_takes, G_Draft_takes⟩ := h_takes
    obtain ⟨f6, fd6, M_Draft_put, b_Draft_put, G_Draft_put⟩ := h_put
    refine ⟨_, pss_cons (ps_set (i := 1) sc_read_formula.nd rfl (Or.inl rfl) (pe_meth0 (pv 0) T.cCursor M_Cursor_here G_Cursor_here (hr.mono (by decide)) b_Cursor_here .nil pass0))
      (pss_cons (ps_set (i := 2) sc_read_formula.nd rfl (Or.inl rfl) (pe_make0 MK_Draft G_Draft (hr.mono (by decide)) rfl m_Draft b_Draft .nil pass0))
      (pss_cons (ps_while (passes_of rfl) (PW.pt (pw_or (pt_cmpR op_ne (pe_meth0 (pv 0) T.cCursor M_Cursor_word G_Cursor_word (hr.mono (by decide)) b_Cursor_word .nil pass0) pe_str (nomark _)) (pw_or1 (pt_not (pt_val (pe_meth0 (pv 2) T.cDraft M_Draft_is_whole G_Draft_is_whole (hr.mono (by decide)) b_Draft_is_whole .nil pass0))))))
        (pss_cons (ps_if (pt_not (pt_val (pe_meth (pv 2) T.cDraft M_Draft_takes G_Draft_takes (hr.mono (by decide)) b_Draft_takes .nil pass0 (pa_cons (pe_meth0 (pv 0) T.cCursor M_Cursor_word G_Cursor_word (hr.mono (by decide)) b_Cursor_word .nil pass0) pa_nil))))
            (pss_one (ps_raiseFault rfl TF (hr.mono (by decide : 1 ≤ 3)) (takes_of rfl rfl rfl rfl) (pa_cons pe_int (pa_cons (pe_meth0 (pv 0) T.cCursor M_Cursor_here G_Cursor_here (hr.mono (by decide)) b_Cursor_here .nil pass0) pa_nil))))
            (pss_nil))
          (pss_cons (ps_if (PW.pt (pw_and (pt_cmpR op_in_seq (pe_meth0 (pv 0) T.cCursor M_Cursor_word G_Cursor_word (hr.mono (by decide)) b_Cursor_word .nil pass0) (pe_tup (pa_cons pe_str (pa_cons pe_str (pa_cons pe_str pa_nil)))) (by rfl)) (pw_and1 (pt_cmpR op_ge (pe_callB call_len_seq (by rfl) n_len PySem.boot_len (pa_cons (pe_fld (pv 2) rfl) pa_nil)) (pe_gi g_MOST_AROUND) (nomark _)))))
            (pss_one (ps_raiseFault rfl TF (hr.mono (by decide : 1 ≤ 3)) (takes_of rfl rfl rfl rfl) (pa_cons pe_int (pa_cons (pe_meth0 (pv 0) T.cCursor M_Cursor_here G_Cursor_here (hr.mono (by decide)) b_Cursor_here .nil pass0) pa_nil))))
            (pss_nil))
          (pss_cons (ps_expr (pe_meth (pv 2) T.cDraft M_Draft_put G_Draft_put (hr.mono (by decide)) b_Draft_put .nil pass0 (pa_cons (pe_meth0 (pv 0) T.cCursor M_Cursor_word G_Cursor_word (hr.mono (by decide)) b_Cursor_word .nil pass0) pa_nil)))
          (pss_one (ps_expr (pe_meth0 (pv 0) T.cCursor M_Cursor_go_on G_Cursor_go_on (hr.mono (by decide)) b_Cursor_go_on .nil pass0)))))))
      (pss_cons (ps_expr (pe_meth0 (pv 0) T.cCursor M_Cursor_go_on G_Cursor_go_on (hr.mono (by decide)) b_Cursor_go_on .nil pass0))
      (pss_cons (ps_if (pt_cmpR op_gt (pe_callB call_len_seq (by rfl) n_len PySem.boot_len (pa_cons (pe_fld (pv 2) rfl) pa_nil)) (pe_gi g_MOST_SIGNS) (nomark _))
        (pss_one (ps_raiseFault rfl TF (hr.mono (by decide : 1 ≤ 3)) (takes_of rfl rfl rfl rfl) (pa_cons pe_int (pa_cons (pv 1) pa_nil))))
        (pss_nil))
      (pss_one (ps_ret (pe_fld (pv 2) rfl))))))), ?_⟩
    obtain ⟨c, l, rfl, hC, hEl, hz, kS, kE⟩ := h
    obtain ⟨t, r0, el⟩ := hEl.ne
    have hC0 := hC
    rw [el] at hC0
    obtain ⟨n0, us0, q0, x0, cc1, cc2, _⟩ := hC0.word
    have lkC : ∀ {m : Str}, (m == ("tokens" : Str)) = false → (m == ("at" : Str)) = false → ∀ n, (curF c.ta n).lookup m = none := fun h1 h2 n => cur_none _ _ h1 h2
    refine ⟨_, rfl, c.a, _, _, rfl, cc1, lkC (by decide +kernel) (by decide +kernel) _, c, t, r0, rfl, hC0, ?_⟩
    intro x dx nx ndx ne
    refine ⟨x, dx, rfl, upd_same, fun H1 g en1 en2 hD1 kp1 nw1 => ⟨rfl, ?_⟩⟩
    subst en1
    subst en2
    have s1 : Same H H1 := Same.made nx ndx kp1
    have gsH : ∀ b, GS g b → H b = none := fun b hb => by
      by_cases e : b = g.a
      · rw [e]; exact nx
      · have := nw1 b hb e
        rw [upd_ne e] at this
        by_cases e2 : b = g.dx
        · rw [e2]; exact ndx
        · rw [upd_ne e2] at this; exact this
    have nca : ¬ GS g c.a := fun z => by rw [gsH _ z] at cc1; cases cc1
    have nct : ¬ GS g c.ta := fun z => by rw [gsH _ z] at cc2; cases cc2
    have keepC : ∀ {H1 H2 : Hp} {l : Toks} {S : Dft}, DftAt H1 L g S → CurAt H1 L c l → Fr (GS g) H1 H2 → CurAt H2 L c l := fun {H1 H2 l S} hD hC fr => hC.mono fun b o z q => fr b o z fun hg => by
      rcases q with ⟨xs, rfl⟩ | rfl | rfl
      · obtain ⟨vs, h1, _⟩ := hD.ar
        rcases hg with e | e | e | e
        · rw [e, hD.obj] at z; cases z
        · rw [e, hD.sg] at z; cases z
        · rw [e, hD.un] at z; cases z
        · rw [e, h1] at z; cases z
      · exact nca hg
      · exact nct hg
    have keepD : ∀ {H1 H2 : Hp} {S : Dft} {C dx : Addr} {fs : List (Str × V)}, DftAt H1 L g S → H1 c.a = some (.ins C dx fs) → Fr (CS c) H1 H2 → DftAt H2 L g S := fun {H1 H2 S C dx fs} hD hc fr => hD.mono fun b o z q => fr b o z fun e => by
      rcases q with ⟨xs, rfl⟩ | q
      · rw [show b = c.a from e, hc] at z; cases z
      · exact nca (e ▸ q)
    have frH : ∀ {H1 H2 : Hp}, Fr (CS c) H H1 → Fr (GS g) H1 H2 → Fr (CS c) H H2 := fun {H1 H2} a fr b o z n => fr b o (a b o z n) fun hg => by rw [gsH b hg] at z; cases z
    refine ⟨fun m σ H' => ∃ (S : Dft) (l' : Toks), σ = [some (.ref c.a), some (iv t.place), some (.ref g.a)] ∧ DftAt H' L g S ∧ DOk S ∧ CurAt H' L c l' ∧ EndsL l' ∧ Fr (CS c) H H' ∧ go S l' = go .init l ∧ S.signs.length + l'.length ≤ l.length ∧ S.ks.length + l'.length ≤ l.length ∧ S.ar.length ≤ 40 ∧ m = l'.length,
      ⟨_, .init, l, rfl, hD1, ⟨fun e he => absurd he (by simp [Dft.init]), Nat.zero_le _, Nat.zero_le _⟩, hC.same s1, hEl, Fr.of s1, rfl, by simp [Dft.init], by simp [Dft.init], Nat.zero_le _, rfl⟩, ?_⟩
    rintro m σ H' ⟨S, l', rfl, hD, hO, hC', hEl', fr, hgo, hb1, hb2, hb3, rfl⟩
    obtain ⟨t', r', el'⟩ := hEl'.ne
    subst el'
    obtain ⟨n1, us1, q1, x1, ca1, _⟩ := hC'.word
    have lkW := fun n => lkC (m := "word") (by decide +kernel) (by decide +kernel) n
    have lkH := fun n => lkC (m := "here") (by decide +kernel) (by decide +kernel) n
    have lkG := fun n => lkC (m := "go_on") (by decide +kernel) (by decide +kernel) n
    have gone : go S (t' :: r') = if (tokEq t'.tok (.sign 59) && S.whole) = true then .ok (S.signs, r') else if S.takes t'.tok = false then wrong (t' :: r') else if (opens t'.tok && decide (40 ≤ S.ar.length)) = true then .error ⟨10, t'.place⟩ else go (S.put t'.tok) r' := rfl
    have lkD : ∀ {m : Str}, (m == ("signs" : Str)) = false → (m == ("unknowns" : Str)) = false → (m == ("around" : Str)) = false → (m == ("brackets" : Str)) = false → (m == ("ended" : Str)) = false → (m == ("begin" : Str)) = false → ∀ br e b, (dftF g.sa g.ua g.ra br e b).lookup m = none := fun h1 h2 h3 h4 h5 h6 br e b => dft_none _ _ _ _ _ _ h1 h2 h3 h4 h5 h6
    have test : ∀ Q' : Bool → Hp → Prop, Q' (!(tokEq t'.tok (.sign 59) && S.whole)) H' → tOr (tTest (tOp rNe (tMeth L.Cursor "word" (sp_word L) [] E0 (tVar 0) tNil) (tC (V.str (Str.ofString ";"))))) (tNot (tB (tMeth L.Draft "is_whole" (sp_is_whole L) [] E0 (tVar 2) tNil)))
        [some (V.ref c.a), some (iv t.place), some (V.ref g.a)] H' Q' := by
      intro Q' hq
      refine ⟨_, rfl, c.a, _, _, rfl, ca1, lkW _, c, t', r', rfl, hC', fun x hx1 hx2 => ?_⟩
      refine ⟨rfl, _, rfl, ?_⟩
      rw [wd_is hx1 59 (by decide +kernel) (s := Str.ofString ";") (by decide +kernel)]
      show if (!tokEq t'.tok (.sign 59)) = true then _ else _
      cases e : tokEq t'.tok (.sign 59) with
      | false =>
        rw [e] at hq
        refine iteT' rfl ?_
        exact hq
      | true =>
        rw [e, Bool.true_and] at hq
        refine iteF' rfl ?_
        exact ⟨_, rfl, g.a, _, _, rfl, hD.obj, lkD (by decide +kernel) (by decide +kernel) (by decide +kernel) (by decide +kernel) (by decide +kernel) (by decide +kernel) _ _ _, g, S, rfl, hD, _, rfl, hq⟩
    refine test _ ?_
    cases hw : (tokEq t'.tok (.sign 59) && S.whole) with
    | false =>
      refine iteT' rfl ?_
      rw [hw, if_neg (by decide)] at gone
      have flt : ∀ f, go S (t' :: r') = .error f → FltE L E (CS c) H f := fun f e => kE f (by
        unfold goF
        rw [← hgo, e]
        rfl)
      have flt' : ∀ {f : VapcmBase.Fault} {H2 : Hp}, FltE L E (CS c) H f → Same H' H2 → ∀ dx, H2 dx = none → E (.ref L.Fault) (some dx) (upd H2 dx (.xd (fltF (iv f.code) (iv f.place)))) := fun {f H2} k s dx n =>
        k _ dx (fun b o z nb => by
          have z2 := s _ _ (fr b o z nb)
          rw [upd_ne (ne_of_none z2 n)]
          exact z2) (by
          cases e : H dx with
          | none => rfl
          | some o =>
            by_cases eb : dx = c.a
            · rw [eb, s _ _ ca1] at n; cases n
            · rw [s _ _ (fr dx o e eb)] at n; cases n) upd_same
      refine ⟨fun σ' H2 => ∃ m', m' < (t' :: r').length ∧ ∃ (S : Dft) (l' : Toks), σ' = [some (.ref c.a), some (iv t.place), some (.ref g.a)] ∧ DftAt H2 L g S ∧ DOk S ∧ CurAt H2 L c l' ∧ EndsL l' ∧ Fr (CS c) H H2 ∧ go S l' = go .init l ∧ S.signs.length + l'.length ≤ l.length ∧ S.ks.length + l'.length ≤ l.length ∧ S.ar.length ≤ 40 ∧ m' = l'.length, fun _ _ z => z, ?_⟩
      refine ⟨_, rfl, g.a, _, _, rfl, hD.obj, lkD (by decide +kernel) (by decide +kernel) (by decide +kernel) (by decide +kernel) (by decide +kernel) (by decide +kernel) _ _ _, _, rfl, c.a, _, _, rfl, ca1, lkW _, c, t', r', rfl, hC', fun x hx1 hx2 => ?_⟩
      refine ⟨g, S, x, t', rfl, hD, hx1, hx2, _, rfl, ?_⟩
      cases htk : S.takes t'.tok with
      | false =>
        refine iteT' rfl ?_
        rw [if_pos htk] at gone
        refine ⟨_, rfl, c.a, _, _, rfl, ca1, lkH _, c, t', r', rfl, hC', _, _, rfl, fun dx ndx => ?_⟩
        exact flt' (flt ⟨3, t'.place⟩ gone) (Same.refl _) dx ndx
      | true =>
        refine iteF' rfl ?_
        rw [if_neg (by rw [htk]; decide)] at gone
        refine ⟨_, rfl, c.a, _, _, rfl, ca1, lkW _, c, t', r', rfl, hC', fun x2 hx3 hx4 => ?_⟩
        refine ⟨(by show 3 ≤ sizeLine; decide), fun p np => ?_⟩
        refine ⟨p, _, rfl, .inr (SqT.of upd_same), rfl, rfl, _, rfl, ?_⟩
        have ein := in_opens hx3
        have s2 : Same H' (upd H' p (.tup [.str "~", .str "(", .str ">"])) := same_new np
        have hD2 := hD.same s2
        have hC2 := hC'.same s2
        have ca2 := s2 _ _ ca1
        have fr2 : Fr (CS c) H (upd H' p (.tup [.str "~", .str "(", .str ">"])) := fr.trans (Fr.of s2)
        obtain ⟨vs, v1, v2⟩ := hD2.ar
        -- the end of the turn
        have fin : (opens t'.tok && decide (40 ≤ S.ar.length)) = false → tSeq (tDrop (tMeth L.Draft "put" (sp_put L) [] E0 (tVar 2) (tCons (tMeth L.Cursor "word" (sp_word L) [] E0 (tVar 0) tNil) tNil))) (tDrop (tMeth L.Cursor "go_on" (sp_go_on L) [] E0 (tVar 0) tNil))
            { nx := fun σ' H2 => ∃ m', m' < (t' :: r').length ∧ ∃ (S : Dft) (l' : Toks), σ' = [some (.ref c.a), some (iv t.place), some (.ref g.a)] ∧ DftAt H2 L g S ∧ DOk S ∧ CurAt H2 L c l' ∧ EndsL l' ∧ Fr (CS c) H H2 ∧ go S l' = go .init l ∧ S.signs.length + l'.length ≤ l.length ∧ S.ks.length + l'.length ≤ l.length ∧ S.ar.length ≤ 40 ∧ m' = l'.length, rt := Q }
            [some (V.ref c.a), some (iv t.place), some (V.ref g.a)] (upd H' p (.tup [.str "~", .str "(", .str ">"])) := by
          intro ho
          rw [ho, if_neg (by decide)] at gone
          refine ⟨_, rfl, g.a, _, _, rfl, hD2.obj, lkD (by decide +kernel) (by decide +kernel) (by decide +kernel) (by decide +kernel) (by decide +kernel) (by decide +kernel) _ _ _, _, rfl, c.a, _, _, rfl, ca2, lkW _, c, t', r', rfl, hC2, fun x3 hx5 hx6 => ?_⟩
          have hlen : (t' :: r').length = r'.length + 1 := rfl
          refine ⟨g, S, x3, t', rfl, hD2, hO, hx5, htk, by omega, by omega, by omega, fun H4 hD4 fr4 => ?_⟩
          have hC4 := keepC hD2 hC2 fr4
          obtain ⟨n4, us4, q4, x4, ca4, _⟩ := hC4.word
          refine ⟨_, rfl, c.a, _, _, rfl, ca4, lkG _, c, t', r', rfl, hC4, fun H5 hC5 fr5 => ?_⟩
          have hD5 := keepD hD4 ca4 fr5
          obtain ⟨po, p1, p2, p3⟩ := put_ok hO htk
          have hlast : tokEq t'.tok .last = false := by
            rcases takes_cases htk with e | e | e | ⟨e, _⟩ | ⟨n, e⟩ <;> rw [e] <;> rfl
          have har : (S.put t'.tok).ar.length ≤ 40 := by
            rcases takes_cases htk with e | e | e | ⟨e, hbr⟩ | ⟨n, e⟩
            · have : opens t'.tok = true := by rw [e]; rfl
              rw [this, Bool.true_and] at ho
              have := of_decide_eq_false ho
              omega
            · have : opens t'.tok = true := by rw [e]; rfl
              rw [this, Bool.true_and] at ho
              have := of_decide_eq_false ho
              omega
            · have : opens t'.tok = true := by rw [e]; rfl
              rw [this, Bool.true_and] at ho
              have := of_decide_eq_false ho
              omega
            · rw [e]
              obtain ⟨j, b, r, eg⟩ := popG_some (l := S.ar) (by have := hO.br; omega)
              rw [put_41 eg]
              have h4 := (popG_n40 eg).2.2.2
              have h5 := (popT_n40 r b).2.2.2
              show (popT r b).1.length ≤ 40
              omega
            · rw [e]
              have h5 := (popT_n40 S.ar S.signs.length).2.2.2
              show (popT S.ar S.signs.length).1.length ≤ 40
              omega
          exact ⟨r'.length, by simp, S.put t'.tok, r', rfl, hD5, po, hC5, hEl'.tail hlast, (frH fr2 fr4).trans fr5, by rw [← hgo, gone], by omega, by omega, har, rfl⟩
        show if inV (V.str (SX.S (nb x2.1))) [.str "~", .str "(", .str ">"] = true then _ else _
        rw [ein]
        cases hop : opens t'.tok with
        | false =>
          refine iteF' rfl ?_
          refine iteF' rfl ?_
          exact fin (by rw [hop]; rfl)
        | true =>
          refine iteT' rfl ?_
          refine ⟨_, rfl, g.a, _, _, _, _, rfl, hD2.obj, T.cDraft, T.nDraft_around, dft_around _ _ _ _ _ _, g.ra, _, rfl, .inl (SqL.of v1), _, _, rfl, rfl, _, rfl, ?_⟩
          have ev : (vs.reverse.length : Int) = (S.ar.length : Int) := by rw [List.length_reverse, v2.length]
          rw [ev]
          by_cases c40 : 40 ≤ S.ar.length
          · refine iteT' (decide_eq_true (by omega)) ?_
            rw [hop, decide_eq_true c40, if_pos (by decide)] at gone
            refine ⟨_, rfl, c.a, _, _, rfl, ca2, lkH _, c, t', r', rfl, hC2, _, _, rfl, fun dx ndx => ?_⟩
            exact flt' (flt ⟨10, t'.place⟩ gone) s2 dx ndx
          · refine iteF' (decide_eq_false (by omega)) ?_
            exact fin (by rw [decide_eq_false c40, Bool.and_false])
    | true =>
      refine iteF' rfl ?_
      rw [hw, if_pos rfl] at gone
      obtain ⟨h59, hwh⟩ := Bool.and_eq_true_iff.mp hw
      refine ⟨_, rfl, c.a, _, _, rfl, ca1, lkG _, c, t', r', rfl, hC', fun H5 hC5 fr5 => ?_⟩
      have hD5 := keepD hD ca1 fr5
      have fr6 := fr.trans fr5
      have egF : goF l = if 40 < S.signs.length then .error ⟨9, here l⟩ else .ok (S.signs, r') := by
        unfold goF
        rw [← hgo, gone]
        rfl
      have hEr : EndsL r' := hEl'.tail (by rw [tokEq_sign h59]; rfl)
      have fg : H g.sa = none := gsH _ (.inr (.inl rfl))
      refine ⟨_, rfl, g.a, _, _, _, _, rfl, hD5.obj, T.cDraft, T.nDraft_signs, dft_signs _ _ _ _ _ _, g.sa, _, rfl, .inl (SqL.of hD5.sg), _, _, rfl, rfl, _, rfl, ?_⟩
      rw [List.length_map]
      by_cases c40 : 40 < S.signs.length
      · refine iteT' (decide_eq_true (by omega)) ?_
        rw [if_pos c40] at egF
        refine ⟨_, rfl, _, _, rfl, fun dx ndx => ?_⟩
        have hh : here l = t.place := by rw [el]; rfl
        have k9 := kE _ egF
        rw [hh] at k9
        refine k9 _ dx (fun b o z nb => ?_) ?_ upd_same
        · have z2 := fr6 b o z nb
          rw [upd_ne (ne_of_none z2 ndx)]
          exact z2
        · cases e : H dx with
          | none => rfl
          | some o =>
            by_cases eb : dx = c.a
            · have z := keepC hD hC' (Fr.refl _ _)
              obtain ⟨n, ws, A, us, h1, _⟩ := hC5
              rw [eb, h1] at ndx; cases ndx
            · rw [fr6 dx o e eb] at ndx; cases ndx
      · refine iteF' (decide_eq_false (by omega)) ?_
        rw [if_neg c40] at egF
        exact ⟨_, rfl, g.a, _, _, _, _, rfl, hD5.obj, T.cDraft, T.nDraft_signs, dft_signs _ _ _ _ _ _, kS _ egF H5 g.sa hC5 hEr fr6 fg hD5.sg⟩
end
end Dr

namespace Dr
open PySem PySem.Spec PyProof.Rows L2
open Vapcma (Form Axiom newName takeOld)
open VapcmBase (Bytes isBlank isLetter isDigit token Fault PTok Toks tokEq taken takeName next here PName wrong)
/-! ## texts.py -/
theorem flt_use {L : Lay} {E : XK} {S S' : Addr → Prop} {H H1 : Hp} {f : VapcmBase.Fault} (k : FltE L E S H f) (fr : Fr S H H1) (al : ∀ b, S b → H1 b ≠ none) (sub : ∀ b, S' b → S b) : FltE L E S' H1 f := fun H' dx fr' n h =>
  k H' dx (fr.trans (fr'.mono sub)) (by
    cases e : H dx with
    | none => rfl
    | some o =>
      by_cases s : S dx
      · exact absurd n (al dx s)
      · rw [fr dx o e s] at n; cases n) h
theorem CurAt.obj {H : Hp} {L : Lay} {c : CAd} {l : Toks} (k : CurAt H L c l) : ∃ n, H c.a = some (.ins L.Cursor c.dx (curF c.ta n)) := by
  obtain ⟨n, ws, A, us, h1, _⟩ := k
  exact ⟨n, h1⟩
theorem CurAt.alive {H : Hp} {L : Lay} {c : CAd} {l : Toks} (k : CurAt H L c l) : ∀ b, CS c b → H b ≠ none := fun b e z => by
  obtain ⟨n, h⟩ := k.obj
  rw [show b = c.a from e, h] at z; cases z
section
variable {P : Program} {w : World} {K : PySem.W.Frag} {mg : Str → Option Value} {base : Heap} {L : Lay}
def sp_check_room (L : Lay) : Sp := fun vs H Q E => ∃ (c : CAd) (l : Toks) (n m : Nat), vs = [.ref c.a, iv n, iv m] ∧ CurAt H L c l ∧ l ≠ [] ∧ (n ≠ m → Q .non H) ∧ (n = m → FltE L E (CS c) H ⟨4, here l⟩)
abbrev s_check_room : Stmt := top 60
theorem sc_check_room : FnScope ["cursor", "count", "most"] ["cursor", "count", "most"] (defScope s_check_room) := ⟨rfl, rfl, rfl, by decide +kernel, rfl, by decide +kernel, by decide +kernel⟩
theorem ok_check_room {f : Addr} {fd : FuncData} (F : Fun K "check_room" "check_room" s_check_room f fd) (T : Txt K mg L) (TF : PySem.FltX.FltTxt K mg L.Fault L.FaultI)
    (h_here : HasMeth P w K mg base CX0 1 L.Cursor "here" ["self"] (sp_here L)) : FnOk P w K mg base (L2.CX P w) 3 f fd ["cursor", "count", "most"] (sp_check_room L) := by
  refine F.okX sc_check_room (fun vs H Q E h => ?_) (fun cdv A outer s H vs Q E hr h => ?_)
  · obtain ⟨c, l, n, m, rfl, _⟩ := h
    rfl
  · obtain ⟨f2, fd2, M_Cursor_here, b_Cursor_here, G_Cursor_here⟩ := h_here
    refine ⟨_, pss_one (ps_if (pt_cmpR op_eq (pv 1) (pv 2) (nomark _))
        (pss_one (ps_raiseFault rfl TF (hr.mono (by decide : 1 ≤ 2)) (takes_of rfl rfl rfl rfl) (pa_cons pe_int (pa_cons (pe_meth0 (pv 0) T.cCursor M_Cursor_here G_Cursor_here (hr.mono (by decide)) b_Cursor_here .nil pass0) pa_nil))))
        (pss_nil)), ?_⟩
    obtain ⟨c, l, n, m, rfl, hC, hne, kS, kE⟩ := h
    obtain ⟨t, r, rfl⟩ : ∃ t r, l = t :: r := by
      cases l with
      | nil => exact absurd rfl hne
      | cons t r => exact ⟨t, r, rfl⟩
    obtain ⟨nn, h1⟩ := hC.obj
    refine ⟨_, rfl, _, rfl, rfl, _, rfl, ?_⟩
    by_cases e : n = m
    · refine iteT' (decide_eq_true (by rw [e])) ?_
      exact ⟨_, rfl, c.a, _, _, rfl, h1, cur_none _ _ (by decide +kernel) (by decide +kernel), c, t, r, rfl, hC, _, _, rfl, fun dx ndx => flt_now (kE e) ndx⟩
    · refine iteF' (decide_eq_false (by intro z; exact e (by have := V.int.inj z; omega))) ?_
      exact kS e
def sp_read_new_name (L : Lay) : Sp := fun vs H Q E => ∃ (c : CAd) (l : Toks) (h : HAd) (as_ : List Axiom) (rs : List Vapcma.Row) (gs : List Form), vs = [.ref c.a, .ref h.a] ∧ CurAt H L c l ∧ HeldAt H L h as_ rs gs ∧ l ≠ [] ∧
  (∀ x, newName (namesOf as_ rs) l = .ok x → ∀ H', CurAt H' L c x.2 → Fr (CS c) H H' → Q (nameV x.1) H') ∧ (∀ f, newName (namesOf as_ rs) l = .error f → FltE L E (CS c) H f)
abbrev s_read_new_name : Stmt := top 61
theorem sc_read_new_name : FnScope ["cursor", "held", "name"] ["cursor", "held"] (defScope s_read_new_name) := ⟨rfl, rfl, rfl, by decide +kernel, rfl, by decide +kernel, by decide +kernel⟩
theorem names_has {ns : List Bytes} {i : Nat} {n : Bytes} : (valV (numsFrom i ns) (nameK n)).isSome = ns.contains n := by
  by_cases h : n ∈ ns
  · rw [numsFrom_idx h, List.contains_iff_mem.mpr h]; rfl
  · rw [numsFrom_new h]
    cases e : ns.contains n with
    | false => rfl
    | true => exact absurd (List.contains_iff_mem.mp e) h
theorem ok_read_new_name {f : Addr} {fd : FuncData} (F : Fun K "read_new_name" "read_new_name" s_read_new_name f fd) (T : Txt K mg L) (TF : PySem.FltX.FltTxt K mg L.Fault L.FaultI)
    (h_here : HasMeth P w K mg base CX0 1 L.Cursor "here" ["self"] (sp_here L)) (h_go_on : HasMeth P w K mg base CX0 1 L.Cursor "go_on" ["self"] (sp_go_on L)) (h_name : HasMeth P w K mg base (L2.CX P w) 3 L.Cursor "name" ["self"] (sp_name L)) :
    FnOk P w K mg base (L2.CX P w) 4 f fd ["cursor", "held"] (sp_read_new_name L) := by
  refine F.okX sc_read_new_name (fun vs H Q E h => ?_) (fun cdv A outer s H vs Q E hr h => ?_)
  · obtain ⟨c, l, h, as_, rs, gs, rfl, _⟩ := h
    rfl
  · obtain ⟨f2, fd2, M_Cursor_here, b_Cursor_here, G_Cursor_here⟩ := h_here
    obtain ⟨f3, fd3, M_Cursor_go_on, b_Cursor_go_on, G_Cursor_go_on⟩ := h_go_on
    obtain ⟨f4, fd4, M_Cursor_name, b_Cursor_name, G_Cursor_name⟩ := h_name
    have hu := hu_of hr
    refine ⟨_, pss_cons (ps_set (i := 2) sc_read_new_name.nd rfl (Or.inl rfl) (pe_meth0 (pv 0) T.cCursor M_Cursor_name G_Cursor_name (hr.mono (by decide)) b_Cursor_name .nil (passes_call (takes_of rfl rfl rfl rfl) (fun _ _ _ _ z => z))))
      (pss_cons (ps_if (pt_cmp (pc_din hu (pv 2) (pe_fld (pv 1) rfl)))
        (pss_one (ps_raiseFault rfl TF (hr.mono (by decide : 1 ≤ 3)) (takes_of rfl rfl rfl rfl) (pa_cons pe_int (pa_cons (pe_meth0 (pv 0) T.cCursor M_Cursor_here G_Cursor_here (hr.mono (by decide)) b_Cursor_here .nil pass0) pa_nil))))
        (pss_nil))
      (pss_cons (ps_expr (pe_meth0 (pv 0) T.cCursor M_Cursor_go_on G_Cursor_go_on (hr.mono (by decide)) b_Cursor_go_on .nil pass0))
      (pss_one (ps_ret (pv 2))))), ?_⟩
    obtain ⟨c, l, h, as_, rs, gs, rfl, hC, hH, hne, kS, kE⟩ := h
    obtain ⟨t, r, rfl⟩ : ∃ t r, l = t :: r := by
      cases l with
      | nil => exact absurd rfl hne
      | cons t r => exact ⟨t, r, rfl⟩
    obtain ⟨nn, h1⟩ := hC.obj
    refine ⟨_, rfl, c.a, _, _, rfl, h1, cur_none _ _ (by decide +kernel) (by decide +kernel), c, _, rfl, hC, hne, fun x hx => ?_, fun f hf => ?_⟩
    · obtain ⟨p, b, r', e1, e2, e3⟩ := takeName_ok hx
      cases e1
      subst e3
      have hN : newName (namesOf as_ rs) (⟨p, .name b⟩ :: r) = if (namesOf as_ rs).contains b = true then .error ⟨5, p⟩ else .ok (b, r) := by
        unfold newName
        rw [hx]
        rfl
      refine ⟨_, rfl, _, rfl, h.a, _, _, _, _, rfl, hH.obj, T.cHeld, T.nHeld_numbers, held_numbers _ _ _ _, h.na, _, rfl, DGet.k (k := nameK b) hH.num, _, rfl, ?_⟩
      rw [names_has]
      cases ec : (namesOf as_ rs).contains b with
      | true =>
        rw [if_pos ec] at hN
        refine iteT' rfl ?_
        exact ⟨_, rfl, c.a, _, _, rfl, h1, cur_none _ _ (by decide +kernel) (by decide +kernel), c, _, r, rfl, hC, _, _, rfl, fun dx ndx => flt_now (kE _ hN) ndx⟩
      | false =>
        rw [if_neg (by rw [ec]; decide)] at hN
        refine iteF' rfl ?_
        exact ⟨_, rfl, c.a, _, _, rfl, h1, cur_none _ _ (by decide +kernel) (by decide +kernel), c, _, r, rfl, hC, fun H' g1 g2 => ⟨_, rfl, kS _ hN H' g1 g2⟩⟩
    · refine kE f ?_
      unfold newName
      rw [hf]
      rfl
def sp_read_item (L : Lay) : Sp := fun vs H Q E => ∃ (c : CAd) (l : Toks) (h : HAd) (as_ : List Axiom) (rs : List Vapcma.Row) (gs : List Form), vs = [.ref c.a, .ref h.a] ∧ CurAt H L c l ∧ HeldAt H L h as_ rs gs ∧ c.a ≠ h.a ∧ l ≠ [] ∧
  (∀ x, takeOld (namesOf as_ rs) l = .ok x → x.1 < (namesOf as_ rs).length → ∀ H', CurAt H' L c x.2 → Fr (CS c) H H' → Q (iv x.1) H') ∧ (∀ f, takeOld (namesOf as_ rs) l = .error f → FltE L E (CS c) H f)
abbrev s_read_item : Stmt := top 62
theorem sc_read_item : FnScope ["cursor", "held", "name"] ["cursor", "held"] (defScope s_read_item) := ⟨rfl, rfl, rfl, by decide +kernel, rfl, by decide +kernel, by decide +kernel⟩
theorem ok_read_item {f : Addr} {fd : FuncData} (F : Fun K "read_item" "read_item" s_read_item f fd) (T : Txt K mg L) (TF : PySem.FltX.FltTxt K mg L.Fault L.FaultI)
    (h_here : HasMeth P w K mg base CX0 1 L.Cursor "here" ["self"] (sp_here L)) (h_go_on : HasMeth P w K mg base CX0 1 L.Cursor "go_on" ["self"] (sp_go_on L)) (h_name : HasMeth P w K mg base (L2.CX P w) 3 L.Cursor "name" ["self"] (sp_name L)) :
    FnOk P w K mg base (L2.CX P w) 4 f fd ["cursor", "held"] (sp_read_item L) := by
  refine F.okX sc_read_item (fun vs H Q E h => ?_) (fun cdv A outer s H vs Q E hr h => ?_)
  · obtain ⟨c, l, h, as_, rs, gs, rfl, _⟩ := h
    rfl
  · obtain ⟨f2, fd2, M_Cursor_here, b_Cursor_here, G_Cursor_here⟩ := h_here
    obtain ⟨f3, fd3, M_Cursor_go_on, b_Cursor_go_on, G_Cursor_go_on⟩ := h_go_on
    obtain ⟨f4, fd4, M_Cursor_name, b_Cursor_name, G_Cursor_name⟩ := h_name
    have hu := hu_of hr
    refine ⟨_, pss_cons (ps_set (i := 2) sc_read_item.nd rfl (Or.inl rfl) (pe_meth0 (pv 0) T.cCursor M_Cursor_name G_Cursor_name (hr.mono (by decide)) b_Cursor_name .nil (passes_call (takes_of rfl rfl rfl rfl) (fun _ _ _ _ z => z))))
      (pss_cons (ps_if (pt_cmp (pc_dnotin hu (pv 2) (pe_fld (pv 1) rfl)))
        (pss_one (ps_raiseFault rfl TF (hr.mono (by decide : 1 ≤ 3)) (takes_of rfl rfl rfl rfl) (pa_cons pe_int (pa_cons (pe_meth0 (pv 0) T.cCursor M_Cursor_here G_Cursor_here (hr.mono (by decide)) b_Cursor_here .nil pass0) pa_nil))))
        (pss_nil))
      (pss_cons (ps_expr (pe_meth0 (pv 0) T.cCursor M_Cursor_go_on G_Cursor_go_on (hr.mono (by decide)) b_Cursor_go_on .nil pass0))
      (pss_one (ps_ret (pe_dget hu (pe_fld (pv 1) rfl) (pv 2) (fun _ _ => rfl)))))), ?_⟩
    obtain ⟨c, l, h, as_, rs, gs, rfl, hC, hH, hch, hne, kS, kE⟩ := h
    obtain ⟨t, r, rfl⟩ : ∃ t r, l = t :: r := by
      cases l with
      | nil => exact absurd rfl hne
      | cons t r => exact ⟨t, r, rfl⟩
    obtain ⟨nn, h1⟩ := hC.obj
    refine ⟨_, rfl, c.a, _, _, rfl, h1, cur_none _ _ (by decide +kernel) (by decide +kernel), c, _, rfl, hC, hne, fun x hx => ?_, fun f hf => ?_⟩
    · obtain ⟨p, b, r', e1, e2, e3⟩ := takeName_ok hx
      cases e1
      subst e3
      have hN : takeOld (namesOf as_ rs) (⟨p, .name b⟩ :: r) = match (namesOf as_ rs).findIdx? fun y => y == b with
          | none => .error ⟨8, p⟩
          | some k => .ok (k, r) := by
        unfold takeOld
        rw [hx]
        rfl
      have hv := numsFrom_find (ns := namesOf as_ rs) (i := 0) (n := b)
      refine ⟨_, rfl, _, rfl, h.a, _, _, _, _, rfl, hH.obj, T.cHeld, T.nHeld_numbers, held_numbers _ _ _ _, h.na, _, rfl, DGet.k (k := nameK b) hH.num, _, rfl, ?_⟩
      rw [hv]
      cases ec : (namesOf as_ rs).findIdx? fun y => y == b with
      | none =>
        rw [ec] at hN
        refine iteT' rfl ?_
        exact ⟨_, rfl, c.a, _, _, rfl, h1, cur_none _ _ (by decide +kernel) (by decide +kernel), c, _, r, rfl, hC, _, _, rfl, fun dx ndx => flt_now (kE _ hN) ndx⟩
      | some k =>
        rw [ec] at hN hv
        refine iteF' rfl ?_
        refine ⟨_, rfl, c.a, _, _, rfl, h1, cur_none _ _ (by decide +kernel) (by decide +kernel), c, _, r, rfl, hC, fun H' g1 g2 => ?_⟩
        have hH' := hH.fr h1 hch g2
        have hlt : k < (namesOf as_ rs).length := (List.findIdx?_eq_some_iff_getElem.mp ec).1
        refine ⟨_, rfl, h.a, _, _, _, _, rfl, hH'.obj, T.cHeld, T.nHeld_numbers, held_numbers _ _ _ _, _, rfl, h.na, iv k, rfl, ?_, kS _ hN hlt H' g1 g2⟩
        have := DGet.k (k := nameK b) hH'.num
        rw [hv, Option.map_some, Nat.zero_add] at this
        exact this
    · refine kE f ?_
      unfold takeOld
      rw [hf]
      rfl
end
end Dr

namespace Dr
open PySem PySem.Spec PyProof.Rows L2
open Vapcma (Form Axiom newName takeOld takeFormula)
open VapcmBase (Bytes isBlank isLetter isDigit token Fault PTok Toks tokEq taken takeSign takeName next here PName wrong word nextWord)
abbrev S2 (c : CAd) (h : HAd) : Addr → Prop := fun b => b = c.a ∨ HeldS h b
structure TxtSt (H : Hp) (L : Lay) (c : CAd) (h : HAd) (l : Toks) (as_ : List Axiom) (rs : List Vapcma.Row) (gs : List Form) : Prop where
  cu : CurAt H L c l
  he : HeldAt H L h as_ rs gs
  en : EndsL l
  sh : ShortT l
  ln : l.length ≤ 10001
  ri : Right as_ rs gs
  n1 : c.a ≠ h.a
  n2 : ¬ HeldS h c.ta
  al : ∀ b, h.B b → H b ≠ none
/-- what stood there stands -/
theorem al_keep {H H' : Hp} {S B : Addr → Prop} (al : ∀ b, B b → H b ≠ none) (fr : Fr S H H') (sl : ∀ b, S b → H' b ≠ none) : ∀ b, B b → H' b ≠ none := fun b hb => by
  by_cases s : S b
  · exact sl b s
  · cases e : H b with
    | none => exact absurd e (al b hb)
    | some o => rw [fr b o e s]; simp
theorem held_alive {H : Hp} {L : Lay} {h : HAd} {as_ : List Axiom} {rs : List Vapcma.Row} {gs : List Form} (k : HeldAt H L h as_ rs gs) : ∀ b, HeldS h b → H b ≠ none := fun b e z => by
  obtain ⟨vs, f1, _⟩ := k.fs
  obtain ⟨ws, r1, _⟩ := k.rws
  obtain ⟨us, g1, _⟩ := k.gls
  rcases e with e | e | e | e
  · rw [e, k.num] at z; cases z
  · rw [e, f1] at z; cases z
  · rw [e, r1] at z; cases z
  · rw [e, g1] at z; cases z
theorem s2_alive {H : Hp} {L : Lay} {c : CAd} {h : HAd} {l : Toks} {as_ : List Axiom} {rs : List Vapcma.Row} {gs : List Form} (k : CurAt H L c l) (j : HeldAt H L h as_ rs gs) : ∀ b, S2 c h b → H b ≠ none := fun b e => by
  rcases e with e | e
  · exact k.alive b e
  · exact held_alive j b e
/-- the cursor is not what Held's lists are -/
theorem cur_keep {H H' : Hp} {L : Lay} {c : CAd} {h : HAd} {l : Toks} {as_ : List Axiom} {rs : List Vapcma.Row} {gs : List Form} (k : CurAt H L c l) (j : HeldAt H L h as_ rs gs) (n2 : ¬ HeldS h c.ta) (fr : Fr (HeldS h) H H') : CurAt H' L c l := by
  obtain ⟨vs, f1, _⟩ := j.fs
  obtain ⟨ws, r1, _⟩ := j.rws
  obtain ⟨us, g1, _⟩ := j.gls
  obtain ⟨n, hn⟩ := k.obj
  refine k.mono fun b o z q => fr b o z fun hg => ?_
  have : (∃ xs, H b = some (.lst xs)) ∨ ∃ kvs, H b = some (.dK kvs) := by
    rcases hg with e | e | e | e
    · rw [e]; exact .inr ⟨_, j.num⟩
    · rw [e]; exact .inl ⟨_, f1⟩
    · rw [e]; exact .inl ⟨_, r1⟩
    · rw [e]; exact .inl ⟨_, g1⟩
  rcases q with ⟨xs, rfl⟩ | q | q
  · rcases this with ⟨_, t⟩ | ⟨_, t⟩ <;> rw [z] at t <;> cases t
  · rw [q, hn] at this
    rcases this with ⟨_, t⟩ | ⟨_, t⟩ <;> cases t
  · exact n2 (q ▸ hg)
theorem newName_ok {old : List Bytes} {l : Toks} {x : Bytes × Toks} (h : newName old l = .ok x) : ∃ p, l = ⟨p, .name x.1⟩ :: x.2 ∧ isName (.name x.1) = true ∧ x.1 ∉ old := by
  unfold newName at h
  cases hN : takeName l with
  | error f => rw [hN] at h; cases h
  | ok y =>
    rw [hN] at h
    obtain ⟨p, b, r, e1, e2, e3⟩ := takeName_ok hN
    subst e3
    change (if old.contains b = true then _ else _) = _ at h
    split at h
    · cases h
    · rename_i hc
      cases h
      exact ⟨p, e1, e2, fun z => hc (List.contains_iff_mem.mpr z)⟩
theorem ShortT.tail {t : PTok} {l : Toks} (h : ShortT (t :: l)) : ShortT l := fun u hu => h u (List.mem_cons_of_mem _ hu)
theorem ShortT.suf {l r m : Toks} (h : ShortT l) (e : l = r ++ m) : ShortT m := fun u hu => h u (by rw [e]; exact List.mem_append_right _ hu)
theorem taken_ok {k : VapcmBase.Tok} {l m : Toks} (h : taken k l = .ok m) : ∃ t, l = t :: m ∧ tokEq t.tok k = true := (taken_lt h).2
theorem goF_ok {l : Toks} {x : List Nat × Toks} (h : goF l = .ok x) : ∃ y, takeFormula l = .ok y ∧ x = (enc y.1, y.2) := by
  rw [goF_eq] at h
  cases e : takeFormula l with
  | error f => rw [e] at h; cases h
  | ok y => rw [e] at h; cases h; exact ⟨y, rfl, rfl⟩
theorem goF_err {l : Toks} {f : VapcmBase.Fault} (h : goF l = .error f) : takeFormula l = .error f := by
  rw [goF_eq] at h
  cases e : takeFormula l with
  | error f => rw [e] at h; cases h; rfl
  | ok y => rw [e] at h; cases h
theorem go_suf : ∀ {l : Toks} {S : Dft} {x : List Nat × Toks}, go S l = .ok x → ∃ r, l = r ++ x.2
  | [], S, x, h => by cases h
  | t :: r, S, x, h => by
    unfold go at h
    split at h
    · cases h
      exact ⟨[t], rfl⟩
    · split at h
      · cases h
      · split at h
        · cases h
        · obtain ⟨r', e⟩ := go_suf h
          exact ⟨t :: r', by rw [e]; rfl⟩
theorem goF_suf {l : Toks} {x : List Nat × Toks} (h : goF l = .ok x) : ∃ r, l = r ++ x.2 := by
  unfold goF at h
  cases e : go .init l with
  | error f => rw [e] at h; cases h
  | ok y =>
    rw [e] at h
    change (if 40 < y.1.length then _ else _) = _ at h
    split at h
    · cases h
    · cases h
      exact go_suf e
theorem kwA : (Str.ofString "axiom") = SX.S (nb (word "axiom")) := by decide +kernel
theorem kwR : (Str.ofString "row") = SX.S (nb (word "row")) := by decide +kernel
theorem kwG : (Str.ofString "goal") = SX.S (nb (word "goal")) := by decide +kernel
theorem kw58 : (Str.ofString ":") = SX.S (nb [58]) := by decide +kernel
theorem kw44 : (Str.ofString ",") = SX.S (nb [44]) := by decide +kernel
theorem kw59 : (Str.ofString ";") = SX.S (nb [59]) := by decide +kernel
theorem wtA : WordTok (word "axiom") (.name (word "axiom")) := wt_word ⟨97, [120, 105, 111, 109], by decide +kernel, by decide +kernel⟩
theorem wtR : WordTok (word "row") (.name (word "row")) := wt_word ⟨114, [111, 119], by decide +kernel, by decide +kernel⟩
theorem wtG : WordTok (word "goal") (.name (word "goal")) := wt_word ⟨103, [111, 97, 108], by decide +kernel, by decide +kernel⟩
theorem Right.ax1 {as_ : List Axiom} (h : Right as_ [] []) {n : Bytes} {g : Form} (hl : as_.length ≤ 5) (h1 : n ∉ namesOf as_ []) (h2 : Vapcma.normal g = g ∧ Vapcma.size g ≤ 40) (h3 : wordIsName n = true ∧ n.length ≤ 16) : Right (as_ ++ [⟨n, g⟩]) [] [] := by
  have en : namesOf (as_ ++ [⟨n, g⟩]) [] = namesOf as_ [] ++ [n] := by simp [namesOf]
  refine ⟨by simp; omega, h.nr, h.ng, ?_, ?_, h.gl, fun k r e => by simp at e, ?_⟩
  · rw [en, List.nodup_append]
    exact ⟨h.nd, by simp, fun a ha b hb => by rw [List.mem_singleton.mp hb]; exact fun e => h1 (e ▸ ha)⟩
  · intro a ha
    rcases List.mem_append.mp ha with ha | ha
    · exact h.ax a ha
    · rw [List.mem_singleton.mp ha]; exact h2
  · intro m hm
    rw [en] at hm
    rcases List.mem_append.mp hm with hm | hm
    · exact h.nm m hm
    · rw [List.mem_singleton.mp hm]; exact h3
section
variable {P : Program} {w : World} {K : PySem.W.Frag} {mg : Str → Option Value} {base : Heap} {L : Lay}
def axR (as_ : List Axiom) (l : Toks) : Except VapcmBase.Fault (Axiom × Toks) := (taken (.name (word "axiom")) l).bind fun m => oneAxiom as_ m
def sp_read_axiom (L : Lay) : Sp := fun vs H Q E => ∃ (c : CAd) (h : HAd) (l : Toks) (as_ : List Axiom), vs = [.ref c.a, .ref h.a] ∧ TxtSt H L c h l as_ [] [] ∧ as_.length ≤ 5 ∧
  (∀ y, axR as_ l = .ok y → ∀ H', TxtSt H' L c h y.2 (as_ ++ [y.1]) [] [] → Fr (S2 c h) H H' → Q .non H') ∧ (∀ f, axR as_ l = .error f → FltE L E (S2 c h) H f)
abbrev s_read_axiom : Stmt := top 57
theorem sc_read_axiom : FnScope ["cursor", "held", "name"] ["cursor", "held"] (defScope s_read_axiom) := ⟨rfl, rfl, rfl, by decide +kernel, rfl, by decide +kernel, by decide +kernel⟩
theorem ok_read_axiom {f : Addr} {fd : FuncData} (F : Fun K "read_axiom" "read_axiom" s_read_axiom f fd) (T : Txt K mg L)
    (h_expect : HasMeth P w K mg base (L2.CX P w) 3 L.Cursor "expect" ["self", "word"] (sp_expect L)) (h_rn : HasDef P w K mg base (L2.CX P w) 4 "read_new_name" ["cursor", "held"] (sp_read_new_name L))
    (h_rf : HasDef P w K mg base (L2.CX P w) 4 "read_formula" ["cursor"] (sp_read_formula L)) (h_aa : HasMeth P w K mg base CX0 1 L.Held "add_axiom" ["self", "name", "formula"] (sp_add_axiom L)) :
    FnOk P w K mg base (L2.CX P w) 5 f fd ["cursor", "held"] (sp_read_axiom L) := by
  refine F.okX sc_read_axiom (fun vs H Q E h => ?_) (fun cdv A outer s H vs Q E hr h => ?_)
  · obtain ⟨c, h, l, as_, rfl, _⟩ := h
    rfl
  · obtain ⟨f2, fd2, M_Cursor_expect, b_Cursor_expect, G_Cursor_expect⟩ := h_expect
    obtain ⟨f_read_new_name, fd_read_new_name, m_read_new_name, k_read_new_name, b_read_new_name, G_read_new_name⟩ := h_rn
    obtain ⟨f_read_formula, fd_read_formula, m_read_formula, k_read_formula, b_read_formula, G_read_formula⟩ := h_rf
    obtain ⟨f3, fd3, M_Held_add_axiom, b_Held_add_axiom, G_Held_add_axiom⟩ := h_aa
    refine ⟨_, pss_cons (ps_expr (pe_meth (pv 0) T.cCursor M_Cursor_expect G_Cursor_expect (hr.mono (by decide)) b_Cursor_expect .nil (passes_call (takes_of rfl rfl rfl rfl) (fun _ _ _ _ z => z)) (pa_cons pe_str pa_nil)))
      (pss_cons (ps_set (i := 2) sc_read_axiom.nd rfl (Or.inl rfl) (pe_call G_read_new_name (hr.mono (by decide)) rfl m_read_new_name k_read_new_name b_read_new_name .nil (passes_call (takes_of rfl rfl rfl rfl) (fun _ _ _ _ z => z)) (pa_cons (pv 0) (pa_cons (pv 1) pa_nil))))
      (pss_cons (ps_expr (pe_meth (pv 0) T.cCursor M_Cursor_expect G_Cursor_expect (hr.mono (by decide)) b_Cursor_expect .nil (passes_call (takes_of rfl rfl rfl rfl) (fun _ _ _ _ z => z)) (pa_cons pe_str pa_nil)))
      (pss_one (ps_expr (pe_meth (pv 1) T.cHeld M_Held_add_axiom G_Held_add_axiom (hr.mono (by decide)) b_Held_add_axiom .nil pass0 (pa_cons (pv 2) (pa_cons (pe_call G_read_formula (hr.mono (by decide)) rfl m_read_formula k_read_formula b_read_formula .nil (passes_call (takes_of rfl rfl rfl rfl) (fun _ _ _ _ z => z)) (pa_cons (pv 0) pa_nil)) pa_nil))))))), ?_⟩
    obtain ⟨c, h, l, as_, rfl, hT, hal, kS, kE⟩ := h
    have cne : ∀ {l : Toks}, EndsL l → l ≠ [] := fun e z => by
      obtain ⟨t, r, e2⟩ := e.ne
      rw [z] at e2; cases e2
    have cs2 : ∀ b, CS c b → S2 c h b := fun b e => .inl e
    have en0 : namesOf as_ [] = as_.map fun a => a.name := by simp [namesOf]
    obtain ⟨n0, o0⟩ := hT.cu.obj
    refine ⟨_, rfl, c.a, _, _, rfl, o0, cur_none _ _ (by decide +kernel) (by decide +kernel), c, l, word "axiom", .name (word "axiom"), congrArg (fun s => [V.ref c.a, V.str s]) kwA, hT.cu, cne hT.en, wtA, fun m1 hm1 H1 hC1 fr1 => ?_, fun f hf => ?_⟩
    · obtain ⟨t1, el1, et1⟩ := taken_ok hm1
      have hE1 : EndsL m1 := (el1 ▸ hT.en).tail (by
        cases ht : t1.tok with
        | last => rw [ht] at et1; cases et1
        | _ => rfl)
      have hS1 : ShortT m1 := (el1 ▸ hT.sh).tail
      have hH1 := hT.he.fr o0 hT.n1 fr1
      have fs1 : Fr (S2 c h) H H1 := fr1.mono cs2
      have r1 : axR as_ l = oneAxiom as_ m1 := by unfold axR; rw [hm1]; rfl
      refine ⟨_, rfl, _, rfl, c, m1, h, as_, [], [], rfl, hC1, hH1, cne hE1, fun x2 hx2 H2 hC2 fr2 => ?_, fun f hf => ?_⟩
      · obtain ⟨p2, el2, en2, enot⟩ := newName_ok hx2
        have hE2 : EndsL x2.2 := (el2 ▸ hE1).tail rfl
        have hS2 : ShortT x2.2 := (el2 ▸ hS1).tail
        obtain ⟨n1, o1⟩ := hC1.obj
        have hH2 := hH1.fr o1 hT.n1 fr2
        have fs2 : Fr (S2 c h) H H2 := fs1.trans (fr2.mono cs2)
        obtain ⟨n2, o2⟩ := hC2.obj
        rw [en0] at hx2
        have r2 : axR as_ l = (takeSign 58 x2.2).bind fun r => (takeFormula r).bind fun f => .ok (⟨x2.1, f.1⟩, f.2) := by
          rw [r1]; unfold oneAxiom; rw [hx2]; rfl
        have nmOk : wordIsName x2.1 = true ∧ x2.1.length ≤ 16 := by
          have hw := hC1
          rw [el2] at hw
          obtain ⟨_, _, _, y, _, _, _, _, hy, _⟩ := hw.word
          have ey : y.1 = x2.1 := hy.2.1
          refine ⟨?_, hS1 ⟨p2, .name x2.1⟩ (by rw [el2]; exact List.mem_cons_self) _ rfl⟩
          rw [← ey, hy.isName]
          exact en2
        refine ⟨_, rfl, c.a, _, _, rfl, o2, cur_none _ _ (by decide +kernel) (by decide +kernel), c, x2.2, [58], .sign 58, congrArg (fun s => [V.ref c.a, V.str s]) kw58, hC2, cne hE2, wt_sign (by decide +kernel), fun m3 hm3 H3 hC3 fr3 => ?_, fun f hf => ?_⟩
        · obtain ⟨t3, el3, et3⟩ := taken_ok hm3
          have hE3 : EndsL m3 := (el3 ▸ hE2).tail (by rw [tokEq_sign et3]; rfl)
          have hS3 : ShortT m3 := (el3 ▸ hS2).tail
          have hH3 := hH2.fr o2 hT.n1 fr3
          have fs3 : Fr (S2 c h) H H3 := fs2.trans (fr3.mono cs2)
          obtain ⟨n3, o3⟩ := hC3.obj
          have r3 : axR as_ l = (takeFormula m3).bind fun f => .ok (⟨x2.1, f.1⟩, f.2) := by
            rw [r2, show takeSign 58 x2.2 = .ok m3 from hm3]; rfl
          have l3 : m3.length ≤ 10001 := by
            have h1 := hT.ln
            rw [el1, el2, el3] at h1
            simp only [List.length_cons] at h1
            omega
          refine ⟨_, rfl, h.a, _, _, rfl, hH3.obj, held_none _ _ _ _ (by decide +kernel) (by decide +kernel) (by decide +kernel) (by decide +kernel), _, rfl, _, rfl, c, m3, rfl, hC3, hE3, l3, fun x4 hx4 H4 p hC4 hE4 fr4 np hp => ?_, fun f hf => ?_⟩
          · obtain ⟨y4, hy4, rfl⟩ := goF_ok hx4
            obtain ⟨fn1, fn2⟩ := takeFormula_normal hy4
            obtain ⟨q4, eq4⟩ := goF_suf hx4
            have hH4 := hH3.fr o3 hT.n1 fr4
            have fs4 : Fr (S2 c h) H H4 := fs3.trans (fr4.mono cs2)
            have nq : ¬ HeldS h p := fun z => held_alive hH3 p z np
            have nB : ¬ h.B p := fun z => al_keep hT.al fs3 (s2_alive hC3 hH3) p z np
            refine ⟨h, as_, [], x2.1, y4.1, p, rfl, hH4, hp, nq, nB, by omega, enot, fn1, fun H5 hH5 fr5 => ?_⟩
            have hC5 := cur_keep hC4 hH4 hT.n2 fr5
            refine kS (⟨x2.1, y4.1⟩, y4.2) (by rw [r3, hy4]; rfl) H5 ⟨hC5, hH5, hE4, hS3.suf eq4, ?_, hT.ri.ax1 hal enot ⟨fn1, fn2⟩ nmOk, hT.n1, hT.n2, al_keep hT.al (fs4.trans (fr5.mono fun b hb => .inr hb)) (s2_alive hC5 hH5)⟩ (fs4.trans (fr5.mono fun b hb => .inr hb))
            have := congrArg List.length eq4
            rw [List.length_append] at this
            show y4.2.length ≤ 10001
            have e5 : (enc y4.1, y4.2).2.length = y4.2.length := rfl
            omega
          · exact flt_use (kE f (by rw [r3, goF_err hf]; rfl)) fs3 (s2_alive hC3 hH3) cs2
        · exact flt_use (kE f (by rw [r2, show takeSign 58 x2.2 = .error f from hf]; rfl)) fs2 (s2_alive hC2 hH2) cs2
      · rw [en0] at hf
        exact flt_use (kE f (by rw [r1]; unfold oneAxiom; rw [hf]; rfl)) fs1 (s2_alive hC1 hH1) cs2
    · exact flt_use (kE f (by unfold axR; rw [hf]; rfl)) (Fr.refl _ _) (s2_alive hT.cu hT.he) cs2
end
end Dr

namespace Dr
open PySem PySem.Spec PyProof.Rows L2
open Vapcma (Form Axiom newName takeOld takeFormula)
open VapcmBase (Bytes isBlank isLetter isDigit token Fault PTok Toks tokEq taken takeSign takeName next here PName wrong word nextWord)
theorem wd_kw {x : Word} {t : PTok} {r : Toks} (h : TR x t) {wd : Bytes} {k : VapcmBase.Tok} (hw : WordTok wd k) {s : Str} (es : s = SX.S (nb wd)) : decide (V.str (SX.S (nb x.1)) = V.str s) = next k (t :: r) := by
  rw [es, nbV_eq, Bool.eq_iff_iff, decide_eq_true_iff]
  exact hw x t h
theorem ends_ne {l : Toks} (e : EndsL l) : l ≠ [] := fun z => by
  obtain ⟨t, r, e2⟩ := e.ne
  rw [z] at e2; cases e2
section
variable {P : Program} {w : World} {K : PySem.W.Frag} {mg : Str → Option Value} {base : Heap} {L : Lay}
def sp_read_axioms (L : Lay) : Sp := fun vs H Q E => ∃ (c : CAd) (h : HAd) (l : Toks), vs = [.ref c.a, .ref h.a] ∧ TxtSt H L c h l [] [] [] ∧
  (∀ y, axT [] l = .ok y → ∀ H', TxtSt H' L c h y.2 y.1 [] [] → Fr (S2 c h) H H' → Q .non H') ∧ (∀ f, axT [] l = .error f → FltE L E (S2 c h) H f)
abbrev s_read_axioms : Stmt := top 56
theorem sc_read_axioms : FnScope ["cursor", "held"] ["cursor", "held"] (defScope s_read_axioms) := ⟨rfl, rfl, rfl, by decide +kernel, rfl, by decide +kernel, by decide +kernel⟩
theorem ok_read_axioms {f : Addr} {fd : FuncData} (F : Fun K "read_axioms" "read_axioms" s_read_axioms f fd) (T : Txt K mg L)
    (h_ra : HasDef P w K mg base (L2.CX P w) 5 "read_axiom" ["cursor", "held"] (sp_read_axiom L)) (h_word : HasMeth P w K mg base CX0 1 L.Cursor "word" ["self"] (sp_word L))
    (h_cr : HasDef P w K mg base (L2.CX P w) 3 "check_room" ["cursor", "count", "most"] (sp_check_room L)) (h_axiom_count : HasMeth P w K mg base CX0 1 L.Held "axiom_count" ["self"] (sp_axiom_count L)) :
    FnOk P w K mg base (L2.CX P w) 6 f fd ["cursor", "held"] (sp_read_axioms L) := by
  refine F.okX sc_read_axioms (fun vs H Q E h => ?_) (fun cdv A outer s H vs Q E hr h => ?_)
  · obtain ⟨c, h, l, rfl, _⟩ := h
    rfl
  · obtain ⟨t0, g_MOST_AXIOMS⟩ := T.vMOST_AXIOMS
    obtain ⟨f_read_axiom, fd_read_axiom, m_read_axiom, k_read_axiom, b_read_axiom, G_read_axiom⟩ := h_ra
    obtain ⟨f_check_room, fd_check_room, m_check_room, k_check_room, b_check_room, G_check_room⟩ := h_cr
    obtain ⟨f1, fd1, M_Cursor_word, b_Cursor_word, G_Cursor_word⟩ := h_word
    obtain ⟨f_ac, fd_ac, M_Held_axiom_count, b_Held_axiom_count, G_Held_axiom_count⟩ := h_axiom_count
    refine ⟨_, pss_cons (ps_expr (pe_call G_read_axiom (hr.mono (by decide)) rfl m_read_axiom k_read_axiom b_read_axiom .nil (passes_call (takes_of rfl rfl rfl rfl) (fun _ _ _ _ z => z)) (pa_cons (pv 0) (pa_cons (pv 1) pa_nil))))
      (pss_one (ps_while (passes_of rfl) (pt_cmpR op_eq (pe_meth0 (pv 0) T.cCursor M_Cursor_word G_Cursor_word (hr.mono (by decide)) b_Cursor_word .nil pass0) pe_str (nomark _))
        (pss_cons (ps_expr (pe_call G_check_room (hr.mono (by decide)) rfl m_check_room k_check_room b_check_room .nil (passes_call (takes_of rfl rfl rfl rfl) (fun _ _ _ _ z => z)) (pa_cons (pv 0) (pa_cons (pe_meth0 (pv 1) T.cHeld M_Held_axiom_count G_Held_axiom_count (hr.mono (by decide)) b_Held_axiom_count .nil pass0) (pa_cons (pe_gi g_MOST_AXIOMS) pa_nil)))))
          (pss_one (ps_expr (pe_call G_read_axiom (hr.mono (by decide)) rfl m_read_axiom k_read_axiom b_read_axiom .nil (passes_call (takes_of rfl rfl rfl rfl) (fun _ _ _ _ z => z)) (pa_cons (pv 0) (pa_cons (pv 1) pa_nil)))))))), ?_⟩
    obtain ⟨c, h, l, rfl, hT, kS, kE⟩ := h
    have axr : ∀ (as_ : List Axiom) (l : Toks), nextWord "axiom" l = true → axR as_ l = oneAxiom as_ (l.drop 1) := fun as_ l e => by
      unfold axR taken
      rw [show next (.name (word "axiom")) l = true from e]
      rfl
    have axr0 : ∀ (as_ : List Axiom) (l : Toks), nextWord "axiom" l = false → axR as_ l = wrong l := fun as_ l e => by
      unfold axR taken
      rw [show next (.name (word "axiom")) l = false from e]
      rfl
    have first : axT [] l = (axR [] l).bind fun y => axT ([] ++ [y.1]) y.2 := by
      rw [axT_eq]
      cases e : nextWord "axiom" l with
      | true => rw [if_pos rfl, axr _ _ e]; rfl
      | false => rw [if_neg (by decide), axr0 _ _ e]; rfl
    have cs2 : ∀ b, CS c b → S2 c h b := fun b e => .inl e
    refine ⟨_, rfl, _, rfl, c, h, l, [], rfl, hT, Nat.zero_le _, fun y hy H1 hT1 fr1 => ?_, fun f hf => kE f (by rw [first, hf]; rfl)⟩
    rw [hy] at first
    have first : axT [] l = axT ([] ++ [y.1]) y.2 := first
    refine ⟨fun m σ H' => ∃ (as_ : List Axiom) (l' : Toks), σ = [some (.ref c.a), some (.ref h.a)] ∧ TxtSt H' L c h l' as_ [] [] ∧ as_ ≠ [] ∧ Fr (S2 c h) H H' ∧ axT [] l = axT as_ l' ∧ m = l'.length, ⟨_, [] ++ [y.1], y.2, rfl, hT1, by simp, fr1, first, rfl⟩, ?_⟩
    rintro m σ H' ⟨as_, l', rfl, hT', hne, fr, hax, rfl⟩
    obtain ⟨t, r, el⟩ := hT'.en.ne
    subst el
    obtain ⟨n0, o0⟩ := hT'.cu.obj
    have step := axT_eq as_ (t :: r)
    refine ⟨_, rfl, c.a, _, _, rfl, o0, cur_none _ _ (by decide +kernel) (by decide +kernel), c, t, r, rfl, hT'.cu, fun x hx1 hx2 => ?_⟩
    refine ⟨rfl, _, rfl, ?_⟩
    rw [wd_kw (r := r) hx1 wtA kwA]
    have flt : ∀ f, axT as_ (t :: r) = .error f → FltE L E (CS c) H' f := fun f e => flt_use (kE f (hax.trans e)) fr (s2_alive hT'.cu hT'.he) cs2
    have flt2 : ∀ f, axT as_ (t :: r) = .error f → FltE L E (S2 c h) H' f := fun f e => flt_use (kE f (hax.trans e)) fr (s2_alive hT'.cu hT'.he) fun _ z => z
    cases hw : next (.name (word "axiom")) (t :: r) with
    | true =>
      have hw' : nextWord "axiom" (t :: r) = true := hw
      rw [hw', if_pos rfl] at step
      refine iteT' rfl ?_
      refine ⟨fun σ' H2 => ∃ m', m' < (t :: r).length ∧ ∃ (as_ : List Axiom) (l' : Toks), σ' = [some (.ref c.a), some (.ref h.a)] ∧ TxtSt H2 L c h l' as_ [] [] ∧ as_ ≠ [] ∧ Fr (S2 c h) H H2 ∧ axT [] l = axT as_ l' ∧ m' = l'.length, fun _ _ z => z, ?_⟩
      refine ⟨_, rfl, _, rfl, h.a, _, _, rfl, hT'.he.obj, held_none _ _ _ _ (by decide +kernel) (by decide +kernel) (by decide +kernel) (by decide +kernel), h, as_, [], [], rfl, hT'.he, ?_⟩
      refine ⟨c, t :: r, as_.length, 6, rfl, hT'.cu, by simp, fun hn => ?_, fun hn => ?_⟩
      · have h6 := hT'.ri.na
        rw [if_neg (by omega)] at step
        refine ⟨_, rfl, _, rfl, c, h, t :: r, as_, rfl, hT', by omega, fun y hy H2 hT2 fr2 => ?_, fun f hf => ?_⟩
        · have hy2 := hy
          rw [axr _ _ hw'] at hy2
          rw [hy2] at step
          have hlt := oneAxiom_lt hy2
          exact ⟨y.2.length, by simp at hlt ⊢; omega, as_ ++ [y.1], y.2, rfl, hT2, by simp, fr.trans fr2, hax.trans step, rfl⟩
        · rw [axr _ _ hw'] at hf
          rw [hf] at step
          exact flt2 f step
      · rw [if_pos (by omega)] at step
        exact flt _ step
    | false =>
      have hw' : nextWord "axiom" (t :: r) = false := hw
      rw [hw', if_neg (by decide), if_neg (by simpa using hne)] at step
      refine iteF' rfl ?_
      exact kS (as_, t :: r) (hax.trans step) H' hT' fr
theorem Right.row1 {as_ : List Axiom} {rs : List Vapcma.Row} {gs : List Form} (h : Right as_ rs gs) {n : Bytes} {i j : Nat} (hl : rs.length ≤ 23) (h1 : n ∉ namesOf as_ rs) (h2 : i < as_.length + rs.length ∧ j < as_.length + rs.length) (h3 : wordIsName n = true ∧ n.length ≤ 16) : Right as_ (rs ++ [⟨n, i, j⟩]) gs := by
  have en : namesOf as_ (rs ++ [⟨n, i, j⟩]) = namesOf as_ rs ++ [n] := namesOf_row _ _ _
  refine ⟨h.na, by simp; omega, h.ng, ?_, h.ax, h.gl, fun k r e => ?_, ?_⟩
  · rw [en, List.nodup_append]
    exact ⟨h.nd, by simp, fun a ha b hb => by rw [List.mem_singleton.mp hb]; exact fun e => h1 (e ▸ ha)⟩
  · by_cases c : k < rs.length
    · rw [List.getElem?_append_left c] at e
      exact h.row k r e
    · rw [List.getElem?_append_right (by omega)] at e
      have hk : k = rs.length := by
        have := (List.getElem?_eq_some_iff.mp e).1
        simp at this
        omega
      subst hk
      simp at e
      subst e
      exact h2
  · intro m hm
    rw [en] at hm
    rcases List.mem_append.mp hm with hm | hm
    · exact h.nm m hm
    · rw [List.mem_singleton.mp hm]; exact h3
end
end Dr

namespace Dr
open PySem PySem.Spec PyProof.Rows L2
open Vapcma (Form Axiom newName takeOld takeFormula)
open VapcmBase (Bytes isBlank isLetter isDigit token Fault PTok Toks tokEq taken takeSign takeName next here PName wrong word nextWord)
theorem takeOld_ok {old : List Bytes} {l : Toks} {x : Nat × Toks} (h : takeOld old l = .ok x) : ∃ p b, l = ⟨p, .name b⟩ :: x.2 := by
  unfold takeOld at h
  cases hN : takeName l with
  | error f => rw [hN] at h; cases h
  | ok y =>
    rw [hN] at h
    obtain ⟨p, b, r, e1, e2, e3⟩ := takeName_ok hN
    subst e3
    change (match old.findIdx? fun y => y == b with | none => _ | some k => _) = _ at h
    split at h
    · cases h
    · cases h
      exact ⟨p, b, e1⟩
section
variable {P : Program} {w : World} {K : PySem.W.Frag} {mg : Str → Option Value} {base : Heap} {L : Lay}
def sp_read_rows (L : Lay) : Sp := fun vs H Q E => ∃ (c : CAd) (h : HAd) (l : Toks) (as_ : List Axiom), vs = [.ref c.a, .ref h.a] ∧ TxtSt H L c h l as_ [] [] ∧
  (∀ y, rowT (as_.map fun a => a.name) [] l = .ok y → ∀ H', TxtSt H' L c h y.2 as_ y.1 [] → Fr (S2 c h) H H' → Q .non H') ∧ (∀ f, rowT (as_.map fun a => a.name) [] l = .error f → FltE L E (S2 c h) H f)
abbrev s_read_rows : Stmt := top 58
theorem sc_read_rows : FnScope ["cursor", "held", "name", "first", "second"] ["cursor", "held"] (defScope s_read_rows) := ⟨rfl, rfl, rfl, by decide +kernel, rfl, by decide +kernel, by decide +kernel⟩
theorem ok_read_rows {f : Addr} {fd : FuncData} (F : Fun K "read_rows" "read_rows" s_read_rows f fd) (T : Txt K mg L)
    (h_word : HasMeth P w K mg base CX0 1 L.Cursor "word" ["self"] (sp_word L)) (h_cr : HasDef P w K mg base (L2.CX P w) 3 "check_room" ["cursor", "count", "most"] (sp_check_room L))
    (h_go_on : HasMeth P w K mg base CX0 1 L.Cursor "go_on" ["self"] (sp_go_on L)) (h_rn : HasDef P w K mg base (L2.CX P w) 4 "read_new_name" ["cursor", "held"] (sp_read_new_name L))
    (h_expect : HasMeth P w K mg base (L2.CX P w) 3 L.Cursor "expect" ["self", "word"] (sp_expect L)) (h_ri : HasDef P w K mg base (L2.CX P w) 4 "read_item" ["cursor", "held"] (sp_read_item L))
    (h_ar : HasMeth P w K mg base CX0 4 L.Held "add_row" ["self", "name", "first", "second"] (sp_add_row L)) :
    FnOk P w K mg base (L2.CX P w) 5 f fd ["cursor", "held"] (sp_read_rows L) := by
  refine F.okX sc_read_rows (fun vs H Q E h => ?_) (fun cdv A outer s H vs Q E hr h => ?_)
  · obtain ⟨c, h, l, as_, rfl, _⟩ := h
    rfl
  · obtain ⟨t0, g_MOST_ROWS⟩ := T.vMOST_ROWS
    have n_len := T.n_len
    obtain ⟨f_check_room, fd_check_room, m_check_room, k_check_room, b_check_room, G_check_room⟩ := h_cr
    obtain ⟨f_read_new_name, fd_read_new_name, m_read_new_name, k_read_new_name, b_read_new_name, G_read_new_name⟩ := h_rn
    obtain ⟨f_read_item, fd_read_item, m_read_item, k_read_item, b_read_item, G_read_item⟩ := h_ri
    obtain ⟨f1, fd1, M_Cursor_word, b_Cursor_word, G_Cursor_word⟩ := h_word
    obtain ⟨f2, fd2, M_Cursor_go_on, b_Cursor_go_on, G_Cursor_go_on⟩ := h_go_on
    obtain ⟨f3, fd3, M_Cursor_expect, b_Cursor_expect, G_Cursor_expect⟩ := h_expect
    obtain ⟨f4, fd4, M_Held_add_row, b_Held_add_row, G_Held_add_row⟩ := h_ar
    refine ⟨_, pss_one (ps_while (passes_of rfl) (pt_cmpR op_eq (pe_meth0 (pv 0) T.cCursor M_Cursor_word G_Cursor_word (hr.mono (by decide)) b_Cursor_word .nil pass0) pe_str (nomark _))
        (pss_cons (ps_expr (pe_call G_check_room (hr.mono (by decide)) rfl m_check_room k_check_room b_check_room .nil (passes_call (takes_of rfl rfl rfl rfl) (fun _ _ _ _ z => z)) (pa_cons (pv 0) (pa_cons (pe_callB call_len_seq (by rfl) n_len PySem.boot_len (pa_cons (pe_fld (pv 1) rfl) pa_nil)) (pa_cons (pe_gi g_MOST_ROWS) pa_nil)))))
          (pss_cons (ps_expr (pe_meth0 (pv 0) T.cCursor M_Cursor_go_on G_Cursor_go_on (hr.mono (by decide)) b_Cursor_go_on .nil pass0))
          (pss_cons (ps_set (i := 2) sc_read_rows.nd rfl (Or.inl rfl) (pe_call G_read_new_name (hr.mono (by decide)) rfl m_read_new_name k_read_new_name b_read_new_name .nil (passes_call (takes_of rfl rfl rfl rfl) (fun _ _ _ _ z => z)) (pa_cons (pv 0) (pa_cons (pv 1) pa_nil))))
          (pss_cons (ps_expr (pe_meth (pv 0) T.cCursor M_Cursor_expect G_Cursor_expect (hr.mono (by decide)) b_Cursor_expect .nil (passes_call (takes_of rfl rfl rfl rfl) (fun _ _ _ _ z => z)) (pa_cons pe_str pa_nil)))
          (pss_cons (ps_set (i := 3) sc_read_rows.nd rfl (Or.inl rfl) (pe_call G_read_item (hr.mono (by decide)) rfl m_read_item k_read_item b_read_item .nil (passes_call (takes_of rfl rfl rfl rfl) (fun _ _ _ _ z => z)) (pa_cons (pv 0) (pa_cons (pv 1) pa_nil))))
          (pss_cons (ps_expr (pe_meth (pv 0) T.cCursor M_Cursor_expect G_Cursor_expect (hr.mono (by decide)) b_Cursor_expect .nil (passes_call (takes_of rfl rfl rfl rfl) (fun _ _ _ _ z => z)) (pa_cons pe_str pa_nil)))
          (pss_cons (ps_set (i := 4) sc_read_rows.nd rfl (Or.inl rfl) (pe_call G_read_item (hr.mono (by decide)) rfl m_read_item k_read_item b_read_item .nil (passes_call (takes_of rfl rfl rfl rfl) (fun _ _ _ _ z => z)) (pa_cons (pv 0) (pa_cons (pv 1) pa_nil))))
          (pss_cons (ps_expr (pe_meth (pv 0) T.cCursor M_Cursor_expect G_Cursor_expect (hr.mono (by decide)) b_Cursor_expect .nil (passes_call (takes_of rfl rfl rfl rfl) (fun _ _ _ _ z => z)) (pa_cons pe_str pa_nil)))
          (pss_one (ps_expr (pe_meth (pv 1) T.cHeld M_Held_add_row G_Held_add_row (hr.mono (by decide)) b_Held_add_row .nil pass0 (pa_cons (pv 2) (pa_cons (pv 3) (pa_cons (pv 4) pa_nil))))))))))))))), ?_⟩
    obtain ⟨c, h, l, as_, rfl, hT, kS, kE⟩ := h
    have cs2 : ∀ b, CS c b → S2 c h b := fun b e => .inl e
    refine ⟨fun m σ H' => ∃ (rs : List Vapcma.Row) (l' : Toks) (v2 v3 v4 : Option V), σ = [some (.ref c.a), some (.ref h.a), v2, v3, v4] ∧ TxtSt H' L c h l' as_ rs [] ∧ Fr (S2 c h) H H' ∧ rowT (as_.map fun a => a.name) [] l = rowT (as_.map fun a => a.name) rs l' ∧ m = l'.length, ⟨_, [], l, none, none, none, rfl, hT, Fr.refl _ _, rfl, rfl⟩, ?_⟩
    rintro m σ H' ⟨rs, l', v2, v3, v4, rfl, hT', fr, hax, rfl⟩
    obtain ⟨t, r, el⟩ := hT'.en.ne
    subst el
    obtain ⟨n0, o0⟩ := hT'.cu.obj
    have step := rowT_eq (as_.map fun a => a.name) rs (t :: r)
    refine ⟨_, rfl, c.a, _, _, rfl, o0, cur_none _ _ (by decide +kernel) (by decide +kernel), c, t, r, rfl, hT'.cu, fun x hx1 hx2 => ?_⟩
    refine ⟨rfl, _, rfl, ?_⟩
    rw [wd_kw (r := r) hx1 wtR kwR]
    have flt : ∀ {H1 : Hp} {l1 : Toks} (f : VapcmBase.Fault), rowT (as_.map fun a => a.name) rs (t :: r) = .error f → Fr (S2 c h) H H1 → CurAt H1 L c l1 → HeldAt H1 L h as_ rs [] → FltE L E (CS c) H1 f := fun {H1 l1} f e fr1 hc hh => flt_use (kE f (hax.trans e)) fr1 (s2_alive hc hh) cs2
    cases hw : next (.name (word "row")) (t :: r) with
    | false =>
      have hw' : nextWord "row" (t :: r) = false := hw
      rw [hw', if_neg (by decide)] at step
      refine iteF' rfl ?_
      exact kS (rs, t :: r) (hax.trans step) H' hT' fr
    | true =>
      have hw' : nextWord "row" (t :: r) = true := hw
      have hlast : tokEq t.tok .last = false := by
        have hw2 : tokEq t.tok (.name (word "row")) = true := hw
        cases ht : t.tok with
        | last => rw [ht] at hw2; cases hw2
        | _ => rfl
      rw [hw', if_pos rfl] at step
      refine iteT' rfl ?_
      refine ⟨fun σ' H2 => ∃ m', m' < (t :: r).length ∧ ∃ (rs : List Vapcma.Row) (l' : Toks) (v2 v3 v4 : Option V), σ' = [some (.ref c.a), some (.ref h.a), v2, v3, v4] ∧ TxtSt H2 L c h l' as_ rs [] ∧ Fr (S2 c h) H H2 ∧ rowT (as_.map fun a => a.name) [] l = rowT (as_.map fun a => a.name) rs l' ∧ m' = l'.length, fun _ _ z => z, ?_⟩
      obtain ⟨ws, w1, w2⟩ := hT'.he.rws
      have ewl : ws.length = rs.length := by rw [w2.length, List.length_map]
      refine ⟨_, rfl, _, rfl, h.a, _, _, _, _, rfl, hT'.he.obj, T.cHeld, T.nHeld_rows, held_rows _ _ _ _, h.ra, _, rfl, .inl (SqL.of w1), ?_⟩
      rw [ewl]
      refine ⟨c, t :: r, rs.length, 24, rfl, hT'.cu, by simp, fun hn => ?_, fun hn => ?_⟩
      · have h24 := hT'.ri.nr
        rw [if_neg (by omega)] at step
        have step : rowT (as_.map fun a => a.name) rs (t :: r) = (oneRow (as_.map fun a => a.name) rs r).bind fun y => rowT (as_.map fun a => a.name) (rs ++ [y.1]) y.2 := step
        have er : ∀ f, oneRow (as_.map fun a => a.name) rs r = .error f → rowT (as_.map fun a => a.name) rs (t :: r) = .error f := fun f e => by rw [step, e]; rfl
        have E0 : EndsL r := hT'.en.tail hlast
        have Sh0 : ShortT r := hT'.sh.tail
        have L0 := hT'.ln
        simp only [List.length_cons] at L0
        refine ⟨_, rfl, c.a, _, _, rfl, o0, cur_none _ _ (by decide +kernel) (by decide +kernel), c, t, r, rfl, hT'.cu, fun H1 hC1 fr1 => ?_⟩
        have hH1 := hT'.he.fr o0 hT'.n1 fr1
        have fs1 := fr.trans (fr1.mono cs2)
        obtain ⟨n1, o1⟩ := hC1.obj
        -- the new name
        refine ⟨_, rfl, _, rfl, c, r, h, as_, rs, [], rfl, hC1, hH1, ends_ne E0, fun x2 hx2 H2 hC2 fr2 => ?_, fun f hf => ?_⟩
        · obtain ⟨p2, el2, en2, enot⟩ := newName_ok hx2
          have E2 : EndsL x2.2 := (el2 ▸ E0).tail rfl
          have Sh2 : ShortT x2.2 := (el2 ▸ Sh0).tail
          have hH2 := hH1.fr o1 hT'.n1 fr2
          have fs2 := fs1.trans (fr2.mono cs2)
          obtain ⟨n2, o2⟩ := hC2.obj
          have nmOk : wordIsName x2.1 = true ∧ x2.1.length ≤ 16 := by
            have hw := hC1
            rw [el2] at hw
            obtain ⟨_, _, _, y, _, _, _, _, hy, _⟩ := hw.word
            have ey : y.1 = x2.1 := hy.2.1
            refine ⟨?_, Sh0 ⟨p2, .name x2.1⟩ (by rw [el2]; exact List.mem_cons_self) _ rfl⟩
            rw [← ey, hy.isName]
            exact en2
          have q2 : oneRow (as_.map fun a => a.name) rs r = (takeSign 58 x2.2).bind fun r => (takeOld (namesOf as_ rs) r).bind fun i => (takeSign 44 i.2).bind fun r => (takeOld (namesOf as_ rs) r).bind fun j => (takeSign 59 j.2).bind fun m => .ok (⟨x2.1, i.1, j.1⟩, m) := by
            unfold oneRow
            rw [show newName ((as_.map fun a => a.name) ++ rs.map fun r => r.name) r = .ok x2 from hx2]
            rfl
          refine ⟨_, rfl, c.a, _, _, rfl, o2, cur_none _ _ (by decide +kernel) (by decide +kernel), c, x2.2, [58], .sign 58, congrArg (fun s => [V.ref c.a, V.str s]) kw58, hC2, ends_ne E2, wt_sign (by decide +kernel), fun m3 hm3 H3 hC3 fr3 => ?_, fun f hf => ?_⟩
          · obtain ⟨t3, el3, et3⟩ := taken_ok hm3
            have E3 : EndsL m3 := (el3 ▸ E2).tail (by rw [tokEq_sign et3]; rfl)
            have Sh3 : ShortT m3 := (el3 ▸ Sh2).tail
            have hH3 := hH2.fr o2 hT'.n1 fr3
            have fs3 := fs2.trans (fr3.mono cs2)
            obtain ⟨n3, o3⟩ := hC3.obj
            have q3 := q2
            rw [show takeSign 58 x2.2 = .ok m3 from hm3] at q3
            have q3 : oneRow (as_.map fun a => a.name) rs r = (takeOld (namesOf as_ rs) m3).bind fun i => (takeSign 44 i.2).bind fun r => (takeOld (namesOf as_ rs) r).bind fun j => (takeSign 59 j.2).bind fun m => .ok (⟨x2.1, i.1, j.1⟩, m) := q3
            refine ⟨_, rfl, _, rfl, c, m3, h, as_, rs, [], rfl, hC3, hH3, hT'.n1, ends_ne E3, fun x4 hx4 hi4 H4 hC4 fr4 => ?_, fun f hf => ?_⟩
            · obtain ⟨p4, b4, el4⟩ := takeOld_ok hx4
              have E4 : EndsL x4.2 := (el4 ▸ E3).tail rfl
              have Sh4 : ShortT x4.2 := (el4 ▸ Sh3).tail
              have hH4 := hH3.fr o3 hT'.n1 fr4
              have fs4 := fs3.trans (fr4.mono cs2)
              obtain ⟨n4, o4⟩ := hC4.obj
              have q4 := q3
              rw [hx4] at q4
              have q4 : oneRow (as_.map fun a => a.name) rs r = (takeSign 44 x4.2).bind fun r => (takeOld (namesOf as_ rs) r).bind fun j => (takeSign 59 j.2).bind fun m => .ok (⟨x2.1, x4.1, j.1⟩, m) := q4
              refine ⟨_, rfl, c.a, _, _, rfl, o4, cur_none _ _ (by decide +kernel) (by decide +kernel), c, x4.2, [44], .sign 44, congrArg (fun s => [V.ref c.a, V.str s]) kw44, hC4, ends_ne E4, wt_sign (by decide +kernel), fun m5 hm5 H5 hC5 fr5 => ?_, fun f hf => ?_⟩
              · obtain ⟨t5, el5, et5⟩ := taken_ok hm5
                have E5 : EndsL m5 := (el5 ▸ E4).tail (by rw [tokEq_sign et5]; rfl)
                have Sh5 : ShortT m5 := (el5 ▸ Sh4).tail
                have hH5 := hH4.fr o4 hT'.n1 fr5
                have fs5 := fs4.trans (fr5.mono cs2)
                obtain ⟨n5, o5⟩ := hC5.obj
                have q5 := q4
                rw [show takeSign 44 x4.2 = .ok m5 from hm5] at q5
                have q5 : oneRow (as_.map fun a => a.name) rs r = (takeOld (namesOf as_ rs) m5).bind fun j => (takeSign 59 j.2).bind fun m => .ok (⟨x2.1, x4.1, j.1⟩, m) := q5
                refine ⟨_, rfl, _, rfl, c, m5, h, as_, rs, [], rfl, hC5, hH5, hT'.n1, ends_ne E5, fun x6 hx6 hi6 H6 hC6 fr6 => ?_, fun f hf => ?_⟩
                · obtain ⟨p6, b6, el6⟩ := takeOld_ok hx6
                  have E6 : EndsL x6.2 := (el6 ▸ E5).tail rfl
                  have Sh6 : ShortT x6.2 := (el6 ▸ Sh5).tail
                  have hH6 := hH5.fr o5 hT'.n1 fr6
                  have fs6 := fs5.trans (fr6.mono cs2)
                  obtain ⟨n6, o6⟩ := hC6.obj
                  have q6 := q5
                  rw [hx6] at q6
                  have q6 : oneRow (as_.map fun a => a.name) rs r = (takeSign 59 x6.2).bind fun m => .ok (⟨x2.1, x4.1, x6.1⟩, m) := q6
                  refine ⟨_, rfl, c.a, _, _, rfl, o6, cur_none _ _ (by decide +kernel) (by decide +kernel), c, x6.2, [59], .sign 59, congrArg (fun s => [V.ref c.a, V.str s]) kw59, hC6, ends_ne E6, wt_sign (by decide +kernel), fun m7 hm7 H7 hC7 fr7 => ?_, fun f hf => ?_⟩
                  · obtain ⟨t7, el7, et7⟩ := taken_ok hm7
                    have E7 : EndsL m7 := (el7 ▸ E6).tail (by rw [tokEq_sign et7]; rfl)
                    have Sh7 : ShortT m7 := (el7 ▸ Sh6).tail
                    have hH7 := hH6.fr o6 hT'.n1 fr7
                    have fs7 := fs6.trans (fr7.mono cs2)
                    have q7 := q6
                    rw [show takeSign 59 x6.2 = .ok m7 from hm7] at q7
                    have q7 : oneRow (as_.map fun a => a.name) rs r = .ok (⟨x2.1, x4.1, x6.1⟩, m7) := q7
                    have nml := namesOf_length as_ rs
                    have sml := formsOf_small rs hT'.ri.ax
                    refine ⟨_, rfl, h.a, _, _, rfl, hH7.obj, held_none _ _ _ _ (by decide +kernel) (by decide +kernel) (by decide +kernel) (by decide +kernel), _, rfl, _, rfl, _, rfl, ?_⟩
                    have hna := hT'.ri.na
                    refine ⟨h, as_, rs, [], x2.1, x4.1, x6.1, rfl, hH7, by omega, by omega, by omega, by omega, enot, fun f hf => by have := (sml f hf).2; omega, al_keep hT.al fs7 (s2_alive hC7 hH7), fun H8 hH8 fr8 => ?_⟩
                    have hC8 := cur_keep hC7 hH7 hT'.n2 fr8
                    have ln7 : m7.length < (t :: r).length := by
                      have := oneRow_lt q7
                      simp only [List.length_cons]
                      have e7 : ((⟨x2.1, x4.1, x6.1⟩ : Vapcma.Row), m7).2.length = m7.length := rfl
                      omega
                    refine ⟨m7.length, ln7, rs ++ [⟨x2.1, x4.1, x6.1⟩], m7, _, _, _, rfl, ⟨hC8, hH8, E7, Sh7, by simp only [List.length_cons] at ln7; omega, hT'.ri.row1 (by omega) enot ⟨by omega, by omega⟩ nmOk, hT'.n1, hT'.n2, al_keep hT.al (fs7.trans (fr8.mono fun b hb => .inr hb)) (s2_alive hC8 hH8)⟩, fs7.trans (fr8.mono fun b hb => .inr hb), ?_, rfl⟩
                    rw [hax, step, q7]
                    rfl
                  · exact flt f (er f (by rw [q6, show takeSign 59 x6.2 = .error f from hf]; rfl)) fs6 hC6 hH6
                · exact flt f (er f (by rw [q5, hf]; rfl)) fs5 hC5 hH5
              · exact flt f (er f (by rw [q4, show takeSign 44 x4.2 = .error f from hf]; rfl)) fs4 hC4 hH4
            · exact flt f (er f (by rw [q3, hf]; rfl)) fs3 hC3 hH3
          · exact flt f (er f (by rw [q2, show takeSign 58 x2.2 = .error f from hf]; rfl)) fs2 hC2 hH2
        · refine flt f (er f ?_) fs1 hC1 hH1
          unfold oneRow
          rw [show newName ((as_.map fun a => a.name) ++ rs.map fun r => r.name) r = .error f from hf]
          rfl
      · rw [if_pos (by omega)] at step
        exact flt _ step fr hT'.cu hT'.he
end
end Dr

namespace Dr
open PySem PySem.Spec PyProof.Rows L2
open Vapcma (Form Axiom newName takeOld takeFormula)
open VapcmBase (Bytes isBlank isLetter isDigit token Fault PTok Toks tokEq taken takeSign takeName next here PName wrong word nextWord)
theorem HeldAt.goal {H : Hp} {L : Lay} {h : HAd} {as_ : List Axiom} {rs : List Vapcma.Row} {gs : List Form} (k : HeldAt H L h as_ rs gs) {us : List V} (hu : H h.ga = some (.lst us)) {p : Addr} {g : Form} (hp : H p = some (.lst (encV g))) (np : ¬ HeldS h p) (nB : ¬ h.B p) :
    HeldAt (upd H h.ga (.lst (us ++ [.ref p]))) L h as_ rs (gs ++ [g]) := by
  obtain ⟨vs, f1, f2, f3⟩ := k.fs
  obtain ⟨ws, r1, r2⟩ := k.rws
  obtain ⟨us', g1, g2, g3⟩ := k.gls
  rw [hu] at g1
  cases g1
  have kp : ∀ b o, H b = some o → b ≠ h.ga → upd H h.ga (.lst (us ++ [.ref p])) b = some o := fun b o z n => by rw [upd_ne n]; exact z
  refine ⟨kp _ _ k.obj (ne_of k.obj hu (by intro z; cases z)), kp _ _ k.num (ne_of k.num hu (by intro z; cases z)), ⟨vs, kp _ _ f1 k.d2, f2.mono fun b f hb z => kp b _ z (f3 b hb).2.2, f3⟩, ⟨ws, kp _ _ r1 k.d3, r2.same fun b xs z => kp b _ z (ne_of z hu (by intro z; cases z))⟩, ⟨us ++ [.ref p], upd_same, ?_, ?_⟩, k.d1, k.d2, k.d3, fun b hb => ?_⟩
  · rw [List.map_append]
    exact (g2.mono fun b f hb z => kp b _ z (g3 b hb).2.2).snoc ⟨p, rfl, kp _ _ hp fun e => np (.inr (.inr (.inr e)))⟩
  · intro b hb
    rcases List.mem_append.mp hb with hb | hb
    · exact g3 b hb
    · simp only [List.mem_singleton, V.ref.injEq] at hb
      subst hb
      exact ⟨fun e => np (.inr (.inl e)), fun e => np (.inr (.inr (.inl e))), fun e => np (.inr (.inr (.inr e)))⟩
  · obtain ⟨o1, o2, o3, o4, o5⟩ := k.off b hb
    refine ⟨o1, o2, o3, fun vs' h' => ?_, fun us' h' => ?_⟩
    · rw [kp _ _ f1 k.d2] at h'
      cases h'
      exact o4 vs f1
    · rw [upd_same] at h'
      cases h'
      intro hm
      rcases List.mem_append.mp hm with hm | hm
      · exact o5 us hu hm
      · simp only [List.mem_singleton, V.ref.injEq] at hm
        exact nB (hm ▸ hb)
theorem Right.goal1 {as_ : List Axiom} {rs : List Vapcma.Row} {gs : List Form} (h : Right as_ rs gs) {g : Form} (hl : gs.length ≤ 3) (h2 : Vapcma.normal g = g ∧ Vapcma.size g ≤ 40) : Right as_ rs (gs ++ [g]) :=
  ⟨h.na, h.nr, by simp; omega, h.nd, h.ax, fun x hx => by
    rcases List.mem_append.mp hx with hx | hx
    · exact h.gl x hx
    · rw [List.mem_singleton.mp hx]; exact h2, h.row, h.nm⟩
section
variable {P : Program} {w : World} {K : PySem.W.Frag} {mg : Str → Option Value} {base : Heap} {L : Lay}
def sp_read_goals (L : Lay) : Sp := fun vs H Q E => ∃ (c : CAd) (h : HAd) (l : Toks) (as_ : List Axiom) (rs : List Vapcma.Row), vs = [.ref c.a, .ref h.a] ∧ TxtSt H L c h l as_ rs [] ∧
  (∀ gs l', nextWord "goal" l' = false → goalT [] l = goalT gs l' → ∀ H', TxtSt H' L c h l' as_ rs gs → Fr (S2 c h) H H' → Q .non H') ∧ (∀ f, goalT [] l = .error f → FltE L E (S2 c h) H f)
abbrev s_read_goals : Stmt := top 59
theorem sc_read_goals : FnScope ["cursor", "held"] ["cursor", "held"] (defScope s_read_goals) := ⟨rfl, rfl, rfl, by decide +kernel, rfl, by decide +kernel, by decide +kernel⟩
theorem ok_read_goals {f : Addr} {fd : FuncData} (F : Fun K "read_goals" "read_goals" s_read_goals f fd) (T : Txt K mg L)
    (h_word : HasMeth P w K mg base CX0 1 L.Cursor "word" ["self"] (sp_word L)) (h_cr : HasDef P w K mg base (L2.CX P w) 3 "check_room" ["cursor", "count", "most"] (sp_check_room L))
    (h_go_on : HasMeth P w K mg base CX0 1 L.Cursor "go_on" ["self"] (sp_go_on L)) (h_rf : HasDef P w K mg base (L2.CX P w) 4 "read_formula" ["cursor"] (sp_read_formula L)) :
    FnOk P w K mg base (L2.CX P w) 5 f fd ["cursor", "held"] (sp_read_goals L) := by
  refine F.okX sc_read_goals (fun vs H Q E h => ?_) (fun cdv A outer s H vs Q E hr h => ?_)
  · obtain ⟨c, h, l, as_, rs, rfl, _⟩ := h
    rfl
  · obtain ⟨t0, g_MOST_GOALS⟩ := T.vMOST_GOALS
    have n_len := T.n_len
    obtain ⟨f_check_room, fd_check_room, m_check_room, k_check_room, b_check_room, G_check_room⟩ := h_cr
    obtain ⟨f_read_formula, fd_read_formula, m_read_formula, k_read_formula, b_read_formula, G_read_formula⟩ := h_rf
    obtain ⟨f1, fd1, M_Cursor_word, b_Cursor_word, G_Cursor_word⟩ := h_word
    obtain ⟨f2, fd2, M_Cursor_go_on, b_Cursor_go_on, G_Cursor_go_on⟩ := h_go_on
    refine ⟨_, pss_one (ps_while (passes_of rfl) (pt_cmpR op_eq (pe_meth0 (pv 0) T.cCursor M_Cursor_word G_Cursor_word (hr.mono (by decide)) b_Cursor_word .nil pass0) pe_str (nomark _))
        (pss_cons (ps_expr (pe_call G_check_room (hr.mono (by decide)) rfl m_check_room k_check_room b_check_room .nil (passes_call (takes_of rfl rfl rfl rfl) (fun _ _ _ _ z => z)) (pa_cons (pv 0) (pa_cons (pe_callB call_len_seq (by rfl) n_len PySem.boot_len (pa_cons (pe_fld (pv 1) rfl) pa_nil)) (pa_cons (pe_gi g_MOST_GOALS) pa_nil)))))
          (pss_cons (ps_expr (pe_meth0 (pv 0) T.cCursor M_Cursor_go_on G_Cursor_go_on (hr.mono (by decide)) b_Cursor_go_on .nil pass0))
          (pss_one (ps_expr (pe_bm PySem.F.plainAttrs_list PySem.F.slot_list_append PySem.F.type_list_append mt_append (pe_fld (pv 1) rfl) (pa_cons (pe_call G_read_formula (hr.mono (by decide)) rfl m_read_formula k_read_formula b_read_formula .nil (passes_call (takes_of rfl rfl rfl rfl) (fun _ _ _ _ z => z)) (pa_cons (pv 0) pa_nil)) pa_nil))))))), ?_⟩
    obtain ⟨c, h, l, as_, rs, rfl, hT, kS, kE⟩ := h
    have cs2 : ∀ b, CS c b → S2 c h b := fun b e => .inl e
    refine ⟨fun m σ H' => ∃ (gs : List Form) (l' : Toks), σ = [some (.ref c.a), some (.ref h.a)] ∧ TxtSt H' L c h l' as_ rs gs ∧ Fr (S2 c h) H H' ∧ goalT [] l = goalT gs l' ∧ m = l'.length, ⟨_, [], l, rfl, hT, Fr.refl _ _, rfl, rfl⟩, ?_⟩
    rintro m σ H' ⟨gs, l', rfl, hT', fr, hax, rfl⟩
    obtain ⟨t, r, el⟩ := hT'.en.ne
    subst el
    obtain ⟨n0, o0⟩ := hT'.cu.obj
    have step := goalT_eq gs (t :: r)
    refine ⟨_, rfl, c.a, _, _, rfl, o0, cur_none _ _ (by decide +kernel) (by decide +kernel), c, t, r, rfl, hT'.cu, fun x hx1 hx2 => ?_⟩
    refine ⟨rfl, _, rfl, ?_⟩
    rw [wd_kw (r := r) hx1 wtG kwG]
    have flt : ∀ {H1 : Hp} {l1 : Toks} (f : VapcmBase.Fault), goalT gs (t :: r) = .error f → Fr (S2 c h) H H1 → CurAt H1 L c l1 → HeldAt H1 L h as_ rs gs → FltE L E (CS c) H1 f := fun {H1 l1} f e fr1 hc hh => flt_use (kE f (hax.trans e)) fr1 (s2_alive hc hh) cs2
    cases hw : next (.name (word "goal")) (t :: r) with
    | false =>
      refine iteF' rfl ?_
      exact kS gs (t :: r) hw hax H' hT' fr
    | true =>
      have hlast : tokEq t.tok .last = false := by
        have hw2 : tokEq t.tok (.name (word "goal")) = true := hw
        cases ht : t.tok with
        | last => rw [ht] at hw2; cases hw2
        | _ => rfl
      rw [show next .last (t :: r) = false from hlast, if_neg (by decide), show nextWord "goal" (t :: r) = true from hw, if_pos rfl] at step
      refine iteT' rfl ?_
      refine ⟨fun σ' H2 => ∃ m', m' < (t :: r).length ∧ ∃ (gs : List Form) (l' : Toks), σ' = [some (.ref c.a), some (.ref h.a)] ∧ TxtSt H2 L c h l' as_ rs gs ∧ Fr (S2 c h) H H2 ∧ goalT [] l = goalT gs l' ∧ m' = l'.length, fun _ _ z => z, ?_⟩
      obtain ⟨us, u1, u2, u3⟩ := hT'.he.gls
      have eul : us.length = gs.length := by rw [u2.length, List.length_map]
      refine ⟨_, rfl, _, rfl, h.a, _, _, _, _, rfl, hT'.he.obj, T.cHeld, T.nHeld_goals, held_goals _ _ _ _, h.ga, _, rfl, .inl (SqL.of u1), ?_⟩
      rw [eul]
      refine ⟨c, t :: r, gs.length, 4, rfl, hT'.cu, by simp, fun hn => ?_, fun hn => ?_⟩
      · have h4 := hT'.ri.ng
        rw [if_neg (by omega)] at step
        have step : goalT gs (t :: r) = (takeFormula r).bind fun f => goalT (gs ++ [f.1]) f.2 := step
        have E0 : EndsL r := hT'.en.tail hlast
        have Sh0 : ShortT r := hT'.sh.tail
        have L0 := hT'.ln
        simp only [List.length_cons] at L0
        refine ⟨_, rfl, c.a, _, _, rfl, o0, cur_none _ _ (by decide +kernel) (by decide +kernel), c, t, r, rfl, hT'.cu, fun H1 hC1 fr1 => ?_⟩
        have hH1 := hT'.he.fr o0 hT'.n1 fr1
        have fs1 := fr.trans (fr1.mono cs2)
        obtain ⟨n1, o1⟩ := hC1.obj
        obtain ⟨us1, v1, _⟩ := hH1.gls
        refine ⟨_, rfl, h.a, _, _, _, _, rfl, hH1.obj, T.cHeld, T.nHeld_goals, held_goals _ _ _ _, .inl ⟨rfl, _, SqL.of v1⟩, _, rfl, c, r, rfl, hC1, E0, by omega, fun x4 hx4 H4 p hC4 hE4 fr4 np hp => ?_, fun f hf => ?_⟩
        · obtain ⟨y4, hy4, rfl⟩ := goF_ok hx4
          obtain ⟨fn1, fn2⟩ := takeFormula_normal hy4
          obtain ⟨q4, eq4⟩ := goF_suf hx4
          have hH4 := hH1.fr o1 hT'.n1 fr4
          have fs4 := fs1.trans (fr4.mono cs2)
          have nq : ¬ HeldS h p := fun z => held_alive hH1 p z np
          obtain ⟨us4, w1, w2, w3⟩ := hH4.gls
          have ewl : us4.length = gs.length := by rw [w2.length, List.length_map]
          refine ⟨h.ga, _, _, rfl, rfl, w1, by rw [ewl]; exact fitslt_of (by omega), ?_⟩
          have nB : ¬ h.B p := fun z => al_keep hT.al fs1 (s2_alive hC1 hH1) p z np
          have hH5 := hH4.goal w1 (g := y4.1) hp nq nB
          have fr5 : Fr (HeldS h) H4 (upd H4 h.ga (.lst (us4 ++ [.ref p]))) := fun b o z n => by
            rw [upd_ne (fun e => n (.inr (.inr (.inr e))))]; exact z
          have hC5 := cur_keep hC4 hH4 hT'.n2 fr5
          have hlt := takeFormula_lt hy4
          have e5 : (enc y4.1, y4.2).2.length = y4.2.length := rfl
          refine ⟨y4.2.length, by simp; omega, gs ++ [y4.1], y4.2, rfl, ⟨hC5, hH5, hE4, Sh0.suf eq4, by omega, hT'.ri.goal1 (by omega) ⟨fn1, fn2⟩, hT'.n1, hT'.n2, al_keep hT.al (fs4.trans (fr5.mono fun b hb => .inr hb)) (s2_alive hC5 hH5)⟩, fs4.trans (fr5.mono fun b hb => .inr hb), ?_, rfl⟩
          rw [hax, step, hy4]
          rfl
        · exact flt f (by rw [step, goF_err hf]; rfl) fs1 hC1 hH1
      · rw [if_pos (by omega)] at step
        exact flt _ step fr hT'.cu hT'.he
end
end Dr

namespace Dr
open PySem PySem.Spec PyProof.Rows L2
open Vapcma (Form Axiom newName takeOld takeFormula Text_)
open VapcmBase (Bytes isBlank isLetter isDigit token Fault PTok Toks tokEq taken takeSign takeName next here PName wrong word nextWord)
theorem read_eq {d : Bytes} (h : d.length ≤ 4096) : Vapcma.read d = (lexAt d 0).bind Vapcma.readText := by
  unfold Vapcma.read
  rw [tokens_eq d h]
theorem read_long {d : Bytes} (h : 4096 < d.length) : Vapcma.read d = .error ⟨1, 4096⟩ := by
  unfold Vapcma.read
  rw [tokens_long d h]
  rfl
section
variable {P : Program} {w : World} {K : PySem.W.Frag} {mg : Str → Option Value} {base : Heap} {L : Lay}
def sp_read_text (K : PySem.W.Frag) (L : Lay) : Sp := fun vs H Q E => ∃ (a : Addr) (d : Bytes), vs = [.ref a] ∧ SqL K H a (d.map fun b => iv b.toNat) ∧ d.length ≤ 10000 ∧
  (∀ t, Vapcma.read d = .ok t → ∀ H' h, HeldAt H' L h t.axioms t.rows t.goals → Right t.axioms t.rows t.goals → Same H H' → H h.a = none → (∀ b, H b ≠ none → h.B b) → Q (.ref h.a) H') ∧ (∀ f, Vapcma.read d = .error f → FltE L E NoS H f)
abbrev s_read_text : Stmt := top 55
theorem sc_read_text : FnScope ["data", "cursor", "held"] ["data"] (defScope s_read_text) := ⟨rfl, rfl, rfl, by decide +kernel, rfl, by decide +kernel, by decide +kernel⟩
theorem ok_read_text {f : Addr} {fd : FuncData} (F : Fun K "read_text" "read_text" s_read_text f fd) (T : Txt K mg L) (TF : PySem.FltX.FltTxt K mg L.Fault L.FaultI)
    (h_Cursor : HasMake P w K mg base CX0 1 "Cursor" L.Cursor ["self", "tokens"] (sp_Cursor_init L)) (h_at : HasDef P w K mg base (L2.CX P w) 4 "all_tokens" ["data"] (sp_all_tokens K L)) (h_Held : HasMake P w K mg base CX0 1 "Held" L.Held ["self"] (sp_Held_init L))
    (h_ra : HasDef P w K mg base (L2.CX P w) 6 "read_axioms" ["cursor", "held"] (sp_read_axioms L)) (h_rr : HasDef P w K mg base (L2.CX P w) 5 "read_rows" ["cursor", "held"] (sp_read_rows L)) (h_rg : HasDef P w K mg base (L2.CX P w) 5 "read_goals" ["cursor", "held"] (sp_read_goals L))
    (h_expect : HasMeth P w K mg base (L2.CX P w) 3 L.Cursor "expect" ["self", "word"] (sp_expect L)) :
    FnOk P w K mg base (L2.CX P w) 7 f fd ["data"] (sp_read_text K L) := by
  refine F.okX sc_read_text (fun vs H Q E h => ?_) (fun cdv A outer s H vs Q E hr h => ?_)
  · obtain ⟨a, d, rfl, _⟩ := h
    rfl
  · obtain ⟨t0, g_MOST_BYTES⟩ := T.vMOST_BYTES
    obtain ⟨t1, g_END⟩ := T.vEND
    have n_len := T.n_len
    obtain ⟨f_Cursor, fd_Cursor, MK_Cursor, m_Cursor, b_Cursor, G_Cursor⟩ := h_Cursor
    obtain ⟨f_Held, fd_Held, MK_Held, m_Held, b_Held, G_Held⟩ := h_Held
    obtain ⟨f_all_tokens, fd_all_tokens, m_all_tokens, k_all_tokens, b_all_tokens, G_all_tokens⟩ := h_at
    obtain ⟨f_read_axioms, fd_read_axioms, m_read_axioms, k_read_axioms, b_read_axioms, G_read_axioms⟩ := h_ra
    obtain ⟨f_read_rows, fd_read_rows, m_read_rows, k_read_rows, b_read_rows, G_read_rows⟩ := h_rr
    obtain ⟨f_read_goals, fd_read_goals, m_read_goals, k_read_goals, b_read_goals, G_read_goals⟩ := h_rg
    obtain ⟨f3, fd3, M_Cursor_expect, b_Cursor_expect, G_Cursor_expect⟩ := h_expect
    refine ⟨_, pss_cons (ps_if (pt_cmpR op_gt (pe_callB call_len_seq (by rfl) n_len PySem.boot_len (pa_cons (pv 0) pa_nil)) (pe_gi g_MOST_BYTES) (nomark _))
        (pss_one (ps_raiseFault rfl TF (hr.mono (by decide : 1 ≤ 6)) (takes_of rfl rfl rfl rfl) (pa_cons pe_int (pa_cons (pe_gi g_MOST_BYTES) pa_nil))))
        (pss_nil))
      (pss_cons (ps_set (i := 1) sc_read_text.nd rfl (Or.inl rfl) (pe_make MK_Cursor G_Cursor (hr.mono (by decide)) rfl m_Cursor b_Cursor .nil pass0 (pa_cons (pe_call G_all_tokens (hr.mono (by decide)) rfl m_all_tokens k_all_tokens b_all_tokens .nil (passes_call (takes_of rfl rfl rfl rfl) (fun _ _ _ _ z => z)) (pa_cons (pv 0) pa_nil)) pa_nil)))
      (pss_cons (ps_set (i := 2) sc_read_text.nd rfl (Or.inl rfl) (pe_make0 MK_Held G_Held (hr.mono (by decide)) rfl m_Held b_Held .nil pass0))
      (pss_cons (ps_expr (pe_call G_read_axioms (hr.mono (by decide)) rfl m_read_axioms k_read_axioms b_read_axioms .nil (passes_call (takes_of rfl rfl rfl rfl) (fun _ _ _ _ z => z)) (pa_cons (pv 1) (pa_cons (pv 2) pa_nil))))
      (pss_cons (ps_expr (pe_call G_read_rows (hr.mono (by decide)) rfl m_read_rows k_read_rows b_read_rows .nil (passes_call (takes_of rfl rfl rfl rfl) (fun _ _ _ _ z => z)) (pa_cons (pv 1) (pa_cons (pv 2) pa_nil))))
      (pss_cons (ps_expr (pe_call G_read_goals (hr.mono (by decide)) rfl m_read_goals k_read_goals b_read_goals .nil (passes_call (takes_of rfl rfl rfl rfl) (fun _ _ _ _ z => z)) (pa_cons (pv 1) (pa_cons (pv 2) pa_nil))))
      (pss_cons (ps_expr (pe_meth (pv 1) T.cCursor M_Cursor_expect G_Cursor_expect (hr.mono (by decide)) b_Cursor_expect .nil (passes_call (takes_of rfl rfl rfl rfl) (fun _ _ _ _ z => z)) (pa_cons (pe_gs g_END) pa_nil)))
      (pss_one (ps_ret (pv 2))))))))), ?_⟩
    obtain ⟨a, d, rfl, hs, hz, kS, kE⟩ := h
    refine ⟨_, rfl, a, _, rfl, .inl hs, _, _, rfl, rfl, _, rfl, ?_⟩
    rw [List.length_map]
    by_cases c4 : 4096 < d.length
    · refine iteT' (decide_eq_true (by omega)) ?_
      exact ⟨_, _, rfl, fun dx ndx => flt_now (kE _ (read_long c4)) ndx⟩
    · refine iteF' (decide_eq_false (by omega)) ?_
      have er := read_eq (d := d) (by omega)
      refine ⟨_, rfl, a, d, rfl, hs, hz, fun toks htk H1 p ws us s1 np hp hW hTR hEn hSh hWl hln => ?_, fun f hf => kE f (by rw [er, hf]; rfl)⟩
      rw [htk] at er
      have er : Vapcma.read d = Vapcma.readText toks := er
      intro x dx nx ndx ne
      have npx : p ≠ x := ne_of_none hp nx
      have npd : p ≠ dx := ne_of_none hp ndx
      have kp0 : ∀ b o, H1 b = some o → upd (upd H1 dx (.own x)) x (.ins L.Cursor dx []) b = some o := fun b o z => by
        rw [upd_ne (ne_of_none z nx), upd_ne (ne_of_none z ndx)]; exact z
      refine ⟨x, dx, p, ws, toks, us, rfl, upd_same, kp0 _ _ hp, hW.same fun b xs z => kp0 _ _ z, hTR, hWl, fun H2 hC2 kp2 => ⟨rfl, ?_⟩⟩
      have s2 : Same H1 H2 := Same.made nx ndx kp2
      intro y dy ny ndy ney
      refine ⟨y, dy, fun b => H b ≠ none, rfl, upd_same, ?_, fun H3 h eh1 eh2 eh3 hH3 kp3 nw3 => ⟨rfl, ?_⟩⟩
      · intro b hb
        cases e : H b with
        | none => exact absurd e hb
        | some o =>
          have z := s2 _ _ (s1 _ _ e)
          rw [upd_ne (ne_of_none z ny), upd_ne (ne_of_none z ndy), z]
          simp
      subst eh1
      subst eh2
      have s3 : Same H2 H3 := Same.made ny ndy kp3
      have hC3 := hC2.same s3
      have s03 : Same H H3 := (s1.trans s2).trans s3
      have hsn : ∀ b, HeldS h b → H2 b = none := fun b hb => by
        have := nw3 b hb
        by_cases e : b = h.a
        · rw [e]; exact ny
        · rw [upd_ne e] at this
          by_cases e2 : b = h.dx
          · rw [e2]; exact ndy
          · rw [upd_ne e2] at this; exact this
      have n1 : x ≠ h.a := fun e => by
        obtain ⟨n, hn⟩ := hC2.obj
        rw [show x = h.a from e, ny] at hn; cases hn
      have n2 : ¬ HeldS h p := fun z => by
        have := hsn _ z
        rw [s2 _ _ hp] at this; cases this
      have hT3 : TxtSt H3 L ⟨x, dx, p⟩ h toks [] [] [] := ⟨hC3, hH3, hEn, hSh, hln, Right.nil, n1, n2, fun b hb => by
        rw [eh3] at hb
        cases e : H b with
        | none => exact absurd e hb
        | some o => rw [s03 _ _ e]; simp⟩
      -- what is new is not in the heap at the beginning
      have fx : H x = none := s1.free nx
      have new2 : ∀ b, S2 ⟨x, dx, p⟩ h b → H b = none := fun b hb => by
        rcases hb with e | e
        · rw [show b = x from e]; exact fx
        · exact (s1.trans s2).free (hsn b e)
      have fha : H h.a = none := (s1.trans s2).free ny
      have same : ∀ {H' : Hp}, Fr (S2 ⟨x, dx, p⟩ h) H3 H' → Same H H' := fun {H'} fr b o z => fr b o (s03 b o z) fun s => by rw [new2 b s] at z; cases z
      have flt : ∀ {H' : Hp} {l : Toks} {as_ : List Axiom} {rs : List Vapcma.Row} {gs : List Form} (f : VapcmBase.Fault), Vapcma.read d = .error f → Fr (S2 ⟨x, dx, p⟩ h) H3 H' → CurAt H' L ⟨x, dx, p⟩ l → HeldAt H' L h as_ rs gs → FltE L E (S2 ⟨x, dx, p⟩ h) H' f :=
        fun {H' l as_ rs gs} f e fr hc hh H5 dz fr5 n5 h5 => kE f e H5 dz (fun b o z _ => fr5 b o (same fr b o z) fun s => by rw [new2 b s] at z; cases z) (by
          cases e9 : H dz with
          | none => rfl
          | some o => rw [same fr _ _ e9] at n5; cases n5) h5
      rw [readText_eq] at er
      refine ⟨_, rfl, _, rfl, ⟨x, dx, p⟩, h, toks, rfl, hT3, fun y4 hy4 H4 hT4 fr4 => ?_, fun f hf => flt f (by rw [er, hf]; rfl) (Fr.refl _ _) hC3 hH3⟩
      rw [hy4] at er
      have er : Vapcma.read d = (rowT (y4.1.map fun x => x.name) [] y4.2).bind fun r => (goalT [] r.2).bind fun g => .ok ⟨y4.1, r.1, g⟩ := er
      refine ⟨_, rfl, _, rfl, ⟨x, dx, p⟩, h, y4.2, y4.1, rfl, hT4, fun y5 hy5 H5 hT5 fr5 => ?_, fun f hf => flt f (by rw [er, hf]; rfl) fr4 hT4.cu hT4.he⟩
      rw [hy5] at er
      have er : Vapcma.read d = (goalT [] y5.2).bind fun g => .ok ⟨y4.1, y5.1, g⟩ := er
      have fr45 := fr4.trans fr5
      refine ⟨_, rfl, _, rfl, ⟨x, dx, p⟩, h, y5.2, y4.1, y5.1, rfl, hT5, fun gs l' hng hg H6 hT6 fr6 => ?_, fun f hf => flt f (by rw [er, hf]; rfl) fr45 hT5.cu hT5.he⟩
      rw [hg] at er
      have fr46 := fr45.trans fr6
      obtain ⟨n6, o6⟩ := hT6.cu.obj
      have gstep := goalT_eq gs l'
      have flt6 : ∀ f, Vapcma.read d = .error f → FltE L E (CS ⟨x, dx, p⟩) H6 f := fun f e H9 dz fr9 n9 h9 => flt f e fr46 hT6.cu hT6.he H9 dz (fr9.mono fun b e => .inl e) n9 h9
      refine ⟨_, rfl, x, _, _, rfl, o6, cur_none _ _ (by decide +kernel) (by decide +kernel), ⟨x, dx, p⟩, l', [], .last, rfl, hT6.cu, ends_ne hT6.en, wt_last, fun m hm H7 hC7 fr7 => ?_, fun f hf => ?_⟩
      · have hnx : next .last l' = true := by
          unfold taken at hm
          split at hm
          · assumption
          · cases hm
        rw [hnx, if_pos rfl] at gstep
        rw [gstep] at er
        have er : Vapcma.read d = .ok ⟨y4.1, y5.1, gs⟩ := er
        have hH7 := hT6.he.fr o6 n1 fr7
        have sm := same (fr46.trans (fr7.mono fun b e => .inl e))
        exact ⟨_, rfl, kS _ er H7 h hH7 hT6.ri sm fha (fun b hb => by rw [eh3]; exact hb)⟩
      · refine flt6 f ?_
        have hnx : next .last l' = false := by
          cases e : next .last l' with
          | false => rfl
          | true =>
            unfold taken at hf
            rw [e] at hf
            cases hf
        rw [hnx, if_neg (by decide), hng, if_neg (by decide)] at gstep
        have ef : wrong (A := List Form) l' = .error f := by
          unfold taken at hf
          rw [hnx] at hf
          have : (VapcmBase.wrong l' : Except VapcmBase.Fault Toks) = .error f := hf
          unfold VapcmBase.wrong at this
          unfold VapcmBase.wrong
          cases this
          rfl
        rw [er, gstep, ef]
        rfl
end
end Dr

namespace Dr
open Vapcma (Form matchBy instanceOf vars normal)
/-! ## instances: what's put for the unknowns -/
def putOf (s : List (Nat × Form)) (v : Nat) : Option Form := (s.find? fun x => x.1 == v).map Prod.snd
theorem putOf_app {s e : List (Nat × Form)} {v : Nat} {t : Form} (h : putOf s v = some t) : putOf (s ++ e) v = some t := by
  unfold putOf at h ⊢
  rw [List.find?_append]
  cases c : s.find? (fun x => x.1 == v) with
  | none => rw [c] at h; cases h
  | some x => rw [c] at h; exact h
theorem putOf_new {s : List (Nat × Form)} {v : Nat} {t : Form} (h : s.find? (fun x => x.1 == v) = none) : putOf (s ++ [(v, t)]) v = some t := by
  unfold putOf
  rw [List.find?_append, h]
  simp
theorem match_put : ∀ (p t : Form) (s r : List (Nat × Form)), matchBy p t s = some r → (∃ e, r = s ++ e) ∧ (∀ v ∈ vars p, (putOf r v).isSome = true) ∧ ∀ q : Nat → Form, (∀ v ∈ vars p, ∀ x, putOf r v = some x → q v = x) → sb q p = t
  | .var v, t, s, r, h => by
    unfold matchBy at h
    cases c : s.find? (fun x => x.1 == v) with
    | none =>
      rw [c] at h
      obtain rfl := Option.some.inj h
      refine ⟨⟨_, rfl⟩, fun u hu => ?_, fun q hq => hq v (by simp [vars]) t (putOf_new c)⟩
      obtain rfl : u = v := by simpa [vars] using hu
      rw [putOf_new c]; rfl
    | some x =>
      rw [c] at h
      by_cases e : x.2 = t
      · have h : some s = some r := by simpa [e] using h
        obtain rfl := Option.some.inj h
        have pv : putOf s v = some t := by unfold putOf; rw [c, Option.map_some, e]
        refine ⟨⟨[], by simp⟩, fun u hu => ?_, fun q hq => hq v (by simp [vars]) t pv⟩
        obtain rfl : u = v := by simpa [vars] using hu
        rw [pv]; rfl
      · simp [e] at h
  | .imp a b, t, s, r, h => by
    cases t with
    | imp c d =>
      have h : (matchBy a c s).bind (fun r => matchBy b d r) = some r := h
      cases h1 : matchBy a c s with
      | none => rw [h1] at h; cases h
      | some m =>
        rw [h1, Option.bind_some] at h
        obtain ⟨⟨e1, i1⟩, i2, i3⟩ := match_put a c s m h1
        obtain ⟨⟨e2, j1⟩, j2, j3⟩ := match_put b d m r h
        refine ⟨⟨e1 ++ e2, by rw [j1, i1, List.append_assoc]⟩, fun v hv => ?_, fun q hq => ?_⟩
        · rcases List.mem_append.mp hv with hv | hv
          · obtain ⟨x, hx⟩ := Option.isSome_iff_exists.mp (i2 v hv)
            rw [j1, putOf_app hx]; rfl
          · exact j2 v hv
        · have k1 : sb q a = c := i3 q fun v hv x hx => hq v (List.mem_append_left _ hv) x (by rw [j1]; exact putOf_app hx)
          have k2 : sb q b = d := j3 q fun v hv x hx => hq v (List.mem_append_right _ hv) x hx
          show Form.imp (sb q a) (sb q b) = _
          rw [k1, k2]
    | var _ => simp [matchBy] at h
    | neg _ => simp [matchBy] at h
  | .neg a, t, s, r, h => by
    cases t with
    | neg c =>
      have h : matchBy a c s = some r := h
      obtain ⟨i1, i2, i3⟩ := match_put a c s r h
      refine ⟨i1, i2, fun q hq => ?_⟩
      show Form.neg (sb q a) = _
      rw [i3 q hq]
    | var _ => simp [matchBy] at h
    | imp _ _ => simp [matchBy] at h
theorem inst_sb {p t : Form} (h : instanceOf p t = true) : ∃ s, t = sb s p := by
  obtain ⟨r, hr⟩ := Option.isSome_iff_exists.mp h
  obtain ⟨_, _, k⟩ := match_put p t [] r hr
  refine ⟨fun v => (putOf r v).getD (.var v), (k _ fun v _ x hx => ?_).symm⟩
  show (putOf r v).getD _ = x
  rw [hx]; rfl
theorem match_self : ∀ (f : Form) (s : List (Nat × Form)), (∀ x ∈ s, x.2 = .var x.1) → ∃ r, matchBy f f s = some r ∧ ∀ x ∈ r, x.2 = .var x.1
  | .var v, s, h => by
    unfold matchBy
    cases c : s.find? (fun x => x.1 == v) with
    | none =>
      refine ⟨_, rfl, fun x hx => ?_⟩
      rcases List.mem_append.mp hx with hx | hx
      · exact h x hx
      · rw [List.mem_singleton.mp hx]
    | some x =>
      have h1 := h x (List.mem_of_find?_eq_some c)
      have h2 : x.1 = v := by have := List.find?_some c; simpa using this
      refine ⟨s, ?_, h⟩
      show (if x.2 = Form.var v then some s else none) = some s
      rw [if_pos (by rw [h1, h2])]
  | .imp a b, s, h => by
    obtain ⟨r, h1, h2⟩ := match_self a s h
    obtain ⟨r2, h3, h4⟩ := match_self b r h2
    refine ⟨r2, ?_, h4⟩
    show (matchBy a a s).bind (fun r => matchBy b b r) = some r2
    rw [h1, Option.bind_some, h3]
  | .neg a, s, h => match_self a s h
theorem inst_self (f : Form) : instanceOf f f = true := by
  obtain ⟨r, h, _⟩ := match_self f [] (by simp)
  unfold instanceOf
  rw [h]; rfl
theorem inst_both {f g : Form} (hf : normal f = f) (hg : normal g = g) (h1 : instanceOf f g = true) (h2 : instanceOf g f = true) : f = g := by
  obtain ⟨s, h1⟩ := inst_sb h1
  obtain ⟨t, h2⟩ := inst_sb h2
  rw [← hf, ← hg]
  exact (alike_of h1 h2).2
end Dr

namespace Dr
open PySem PySem.Spec PyProof.Rows L2
open Vapcma (Form Axiom Text_)
open VapcmBase (Bytes)
/-! ## proofs.py and the desk as it lies -/
structure KAd where
  a : Addr
  dx : Addr
def deskF (v : V) : List (Str × V) := [("held", v)]
/-- what is held; B stood there before it -/
def HoldsIs (B : Addr → Prop) (H : Hp) (L : Lay) (v : V) : Vapcma.Obj → Prop
  | none => v = .non
  | some t => ∃ h : HAd, v = .ref h.a ∧ HeldAt H L h t.axioms t.rows t.goals ∧ Right t.axioms t.rows t.goals ∧ ∀ b, B b → h.B b
def DeskAt (B : Addr → Prop) (H : Hp) (L : Lay) (g : KAd) (o : Vapcma.Obj) : Prop := ∃ v, H g.a = some (.ins L.Desk g.dx (deskF v)) ∧ HoldsIs B H L v o
theorem HeldAt.updL {H : Hp} {L : Lay} {h : HAd} {as_ : List Axiom} {rs : List Vapcma.Row} {gs : List Form} (k : HeldAt H L h as_ rs gs) {q : Addr} {xs ys : List V} (hq : H q = some (.lst xs)) (hB : h.B q) : HeldAt (upd H q (.lst ys)) L h as_ rs gs := by
  obtain ⟨o1, o2, o3, o4, o5⟩ := k.off q hB
  obtain ⟨vs, f1, f2, f3⟩ := k.fs
  obtain ⟨ws, r1, r2⟩ := k.rws
  obtain ⟨us, g1, g2, g3⟩ := k.gls
  have kp : ∀ b o, H b = some o → b ≠ q → upd H q (.lst ys) b = some o := fun b o z n => by rw [upd_ne n]; exact z
  have k1 := kp _ _ f1 (Ne.symm o1)
  have k2 := kp _ _ g1 (Ne.symm o3)
  refine ⟨kp _ _ k.obj (ne_of k.obj hq (by intro z; cases z)), kp _ _ k.num (ne_of k.num hq (by intro z; cases z)), ⟨vs, k1, f2.mono fun b f hb z => kp b _ z (fun e => o4 vs f1 (e ▸ hb)), f3⟩, ⟨ws, kp _ _ r1 (Ne.symm o2), r2.same fun b xs z => kp b _ z (ne_of z hq (by intro z; cases z))⟩, ⟨us, k2, g2.mono fun b f hb z => kp b _ z (fun e => o5 us g1 (e ▸ hb)), g3⟩, k.d1, k.d2, k.d3, fun b hb => ?_⟩
  obtain ⟨p1, p2, p3, p4, p5⟩ := k.off b hb
  refine ⟨p1, p2, p3, fun vs' h' => ?_, fun us' h' => ?_⟩
  · rw [k1] at h'; cases h'; exact p4 vs f1
  · rw [k2] at h'; cases h'; exact p5 us g1
theorem HoldsIs.mono {B : Addr → Prop} {H H' : Hp} {L : Lay} {v : V} {o : Vapcma.Obj} {g : KAd} (k : HoldsIs B H L v o) {u : V} (hg : H g.a = some (.ins L.Desk g.dx (deskF u))) (e : Fr (fun b => b = g.a) H H') : HoldsIs B H' L v o := by
  cases o with
  | none => exact k
  | some t =>
    obtain ⟨h, h1, h2, h3⟩ := k
    refine ⟨h, h1, h2.fr hg ?_ e, h3⟩
    intro z
    have := h2.obj
    rw [← z, hg] at this
    have e2 := (HO.ins.inj (Option.some.inj this)).2.2
    exact absurd (congrArg List.length e2) (by simp [deskF, heldF])
theorem DeskAt.updL {B : Addr → Prop} {H : Hp} {L : Lay} {g : KAd} {o : Vapcma.Obj} (k : DeskAt B H L g o) {q : Addr} {xs ys : List V} (hq : H q = some (.lst xs)) (hB : B q) : DeskAt B (upd H q (.lst ys)) L g o := by
  obtain ⟨v, h1, h2⟩ := k
  refine ⟨v, by rw [upd_ne (ne_of h1 hq (by intro z; cases z))]; exact h1, ?_⟩
  cases o with
  | none => exact h2
  | some t =>
    obtain ⟨h, h3, h4, h5, h6⟩ := h2
    exact ⟨h, h3, h4.updL hq (h6 q hB), h5, h6⟩
theorem DeskAt.same {B : Addr → Prop} {H H' : Hp} {L : Lay} {g : KAd} {o : Vapcma.Obj} (k : DeskAt B H L g o) (s : Same H H') : DeskAt B H' L g o := by
  obtain ⟨v, h1, h2⟩ := k
  exact ⟨v, s _ _ h1, h2.mono h1 (Fr.of s)⟩
inductive CallArgs : Int → List Int → List (List Int) → Prop
  | load (row : List Int) (h : row.length ≤ 8192) (b : ∀ z ∈ row, 0 ≤ z ∧ z ≤ 255) : CallArgs 0 row [[0], row]
  | none (p : Int) (h : p = 1 ∨ p = 8) : CallArgs p [] [[p]]
  | one (p x : Int) (h : p = 2 ∨ p = 3 ∨ p = 7) : CallArgs p [x] [[p, x]]
  | two (p x y : Int) (h : p = 4 ∨ p = 5 ∨ p = 6) : CallArgs p [x, y] [[p, x, y]]
def intV (l : List Int) : List V := l.map V.int
theorem int_at {l : List Int} {i : Nat} {z : Int} (h : l[i]? = some z) : atI (intV l) (i : Int) = some (.int z) := atI_nat (by rw [intV, List.getElem?_map, h]; rfl)
def givenV : List V := [.int 1, .int 0, .int 1, .int 1, .int 2, .int 2, .int 2, .int 1, .int 0]
def sp_Desk_init (L : Lay) : Sp := fun vs H Q _ => ∃ (p dx : Addr), vs = [.ref p] ∧ H p = some (.ins L.Desk dx []) ∧
  ∀ (H' : Hp), (∀ B, DeskAt B H' L ⟨p, dx⟩ Option.none) → (∀ b o, H b = some o → b ≠ p → H' b = some o) → Q .non H'
def sp_answer (L : Lay) : Sp := fun vs H Q _ => ∃ (B : Addr → Prop) (g : KAd) (o : Vapcma.Obj) (p : Int) (q : Addr) (xs : List Int) (c : List (List Int)), vs = [.ref g.a, .int p, .ref q] ∧ DeskAt B H L g o ∧ (∀ b, B b → H b ≠ Option.none) ∧ H q = some (.lst (intV xs)) ∧ CallArgs p xs c ∧
  ∀ H' r, DeskAt B H' L g (VapcmaNeutral.step o c).1 → Fr (fun b => b = g.a) H H' → H r = Option.none → H' r = some (.lst (intV (VapcmaNeutral.step o c).2)) → Q (.ref r) H'
theorem told_append (a b : List (List Int)) : PyFlat.told (a ++ b) = PyFlat.told a ++ PyFlat.told b := by simp [PyFlat.told]
theorem cut_mid2 (l : List Int) (i n : Nat) (h : i + n ≤ l.length) : cutV (intV l) (some (i : Int)) (some ((i + n : Nat) : Int)) = intV ((l.drop i).take n) := by
  unfold cutV intV
  rw [HT.sIx_nat, HT.sIx_nat, List.length_map, Nat.min_eq_left (by omega), Nat.min_eq_left (by omega), Nat.add_sub_cancel_left, ← List.map_drop, ← List.map_take]
section
variable {P : Program} {w : World} {K : PySem.W.Frag} {mg : Str → Option Value} {base : Heap} {L : Lay}
abbrev s_Desk_init : Stmt := inClass (top 72) 0
theorem sc_Desk_init : FnScope ["self"] ["self"] (defScope s_Desk_init) := ⟨rfl, rfl, rfl, by decide +kernel, rfl, by decide +kernel, by decide +kernel⟩
theorem ok_Desk_init {f : Addr} {fd : FuncData} (F : Fun K "__init__" "Desk.__init__" s_Desk_init f fd) (T : Txt K mg L) : FnOk P w K mg base CX0 1 f fd ["self"] (sp_Desk_init L) := by
  refine F.ok sc_Desk_init (fun vs H Q E h => ?_) (fun cdv A outer s H vs Q E hr h => ?_)
  · obtain ⟨p, dx, rfl, _⟩ := h
    rfl
  · refine ⟨_, pss_one (ps_fld (pv 0) pe_non rfl), ?_⟩
    obtain ⟨p, dx, rfl, hp, k⟩ := h
    refine ⟨_, rfl, p, L.Desk, dx, _, rfl, hp, T.cDesk, T.nDesk_held, (by decide), ?_⟩
    exact k _ (fun B => ⟨.non, upd_same, rfl⟩) fun b o z n => by rw [upd_ne n]; exact z
def sp_answers (K : PySem.W.Frag) : Sp := fun vs H Q _ => ∃ (a : Addr) (l : List Int), vs = [.ref a] ∧ SqL K H a (intV l) ∧ PyVapcma.answers_asked l = true ∧ ∀ H' r, H' r = some (.lst (intV (PyVapcma.answers l))) → Q (.ref r) H'
abbrev s_answers : Stmt := top 87
theorem sc_answers : FnScope ["calls", "desk", "numbers", "at", "call", "begin", "end", "answer"] ["calls"] (defScope s_answers) := ⟨rfl, rfl, rfl, by decide +kernel, rfl, by decide +kernel, by decide +kernel⟩
theorem ok_answers {f : Addr} {fd : FuncData} (F : Fun K "answers" "answers" s_answers f fd) (T : Txt K mg L) (TG : mg "GIVEN" = some (.ref L.GIVEN) ∧ ∀ H, SqT K H L.GIVEN givenV)
    (h_Desk : HasMake P w K mg base CX0 1 "Desk" L.Desk ["self"] (sp_Desk_init L)) (h_answer : HasMeth P w K mg base CX0 9 L.Desk "answer" ["self", "call", "given"] (sp_answer L)) :
    FnOk P w K mg base CX0 10 f fd ["calls"] (sp_answers K) := by
  refine F.ok sc_answers (fun vs H Q E h => ?_) (fun cdv A outer s H vs Q E hr h => ?_)
  · obtain ⟨a, l, rfl, _⟩ := h
    rfl
  · have n_len := T.n_len
    obtain ⟨g_GIVEN, hG⟩ := TG
    obtain ⟨t0, g_LOAD⟩ := T.vLOAD
    obtain ⟨f_Desk, fd_Desk, MK_Desk, m_Desk, b_Desk, G_Desk⟩ := h_Desk
    obtain ⟨f1, fd1, M_Desk_answer, b_Desk_answer, G_Desk_answer⟩ := h_answer
    refine ⟨_, pss_cons (ps_set (i := 1) sc_answers.nd rfl (Or.inl rfl) (pe_make0 MK_Desk G_Desk (hr.mono (by decide)) rfl m_Desk b_Desk .nil pass0))
      (pss_cons (ps_set (i := 2) sc_answers.nd rfl (Or.inl rfl) (pe_lst pa_nil))
      (pss_cons (ps_set (i := 3) sc_answers.nd rfl (Or.inl rfl) pe_int)
      (pss_cons (ps_while PassesOwn.never (pt_cmpR op_lt (pv 3) (pe_callB call_len_seq (by rfl) n_len PySem.boot_len (pa_cons (pv 0) pa_nil)) (nomark _))
        (pss_cons (ps_set (i := 4) sc_answers.nd rfl (Or.inl rfl) (pe_ix ix_list (pv 0) (pv 3) (fun _ _ => rfl)))
          (pss_cons (ps_set (i := 5) sc_answers.nd rfl (Or.inl rfl) (pe_op op_add (pv 3) pe_int))
          (pss_cons (ps_set (i := 6) sc_answers.nd rfl (Or.inl rfl) (pe_op op_add (pv 5) (pe_ix ix_tup (pe_gr g_GIVEN) (pv 4) (fun _ _ => rfl))))
          (pss_cons (ps_if (pt_cmpR op_eq (pv 4) (pe_gi g_LOAD) (nomark _))
            (pss_cons (ps_set (i := 5) sc_answers.nd rfl (Or.inl rfl) (pv 6))
              (pss_one (ps_set (i := 6) sc_answers.nd rfl (Or.inl rfl) (pe_op op_add (pv 5) (pe_ix ix_list (pv 0) (pe_op op_add (pv 3) pe_int) (fun _ _ => rfl))))))
            (pss_nil))
          (pss_cons (ps_set (i := 7) sc_answers.nd rfl (Or.inl rfl) (pe_meth (pv 1) T.cDesk M_Desk_answer G_Desk_answer (hr.mono (by decide)) b_Desk_answer .nil pass0 (pa_cons (pv 4) (pa_cons (pe_slice sl_list (pv 0) (po_some (pv 5)) (po_some (pv 6))) pa_nil))))
          (pss_cons (ps_expr (pe_bm PySem.F.plainAttrs_list PySem.F.slot_list_append PySem.F.type_list_append mt_append (pv 2) (pa_cons (pe_callB call_len_seq (by rfl) n_len PySem.boot_len (pa_cons (pv 7) pa_nil)) pa_nil)))
          (pss_cons (ps_expr (pe_bm PySem.F.plainAttrs_list PySem.F.slot_list_extend PySem.F.type_list_extend mt_extend (pv 2) (pa_cons (pv 7) pa_nil)))
          (pss_one (ps_set (i := 3) sc_answers.nd rfl (Or.inl rfl) (pv 6)))))))))))
      (pss_one (ps_ret (pv 2)))))), ?_⟩
    obtain ⟨a, l, rfl, hs, hask, k⟩ := h
    obtain ⟨cs, hcs, _, hrows, hans, hlen⟩ := asked_gives hask
    intro x dx nx ndx ne
    refine ⟨x, dx, rfl, upd_same, fun H1 hD1 kp1 => ⟨rfl, ?_⟩⟩
    have s1 : Same H H1 := Same.made nx ndx kp1
    refine ⟨(by decide), fun q nq => ?_⟩
    have fq : H q = Option.none := s1.free nq
    refine ⟨fun m σ H' => ∃ (i : Nat) (done : List (List Int)) (cs' : List (List (List Int))) (f' : Nat) (o : Vapcma.Obj) (v4 v5 v6 v7 : Option V), σ = [some (.ref a), some (.ref x), some (.ref q), some (iv i), v4, v5, v6, v7] ∧ Same H H' ∧ DeskAt (fun b => b = q) H' L ⟨x, dx⟩ o ∧ H' q = some (.lst (intV (PyFlat.told done))) ∧
      i ≤ l.length ∧ PyFlat.calls PyVapcma.shape f' (l.drop i) = some cs' ∧ (∀ c ∈ cs', c ∈ cs) ∧ PyVapcma.answers l = PyFlat.told done ++ PyFlat.told (PyFlat.played VapcmaNeutral.step o cs') ∧ m = l.length - i,
      ⟨_, 0, [], cs, l.length, Option.none, Option.none, Option.none, Option.none, Option.none, rfl, s1.trans (same_new nq), (hD1 _).same (same_new nq), upd_same, Nat.zero_le _, by rw [List.drop_zero]; exact hcs, fun c hc => hc, hans, rfl⟩, ?_⟩
    rintro m σ H' ⟨i, done, cs', f', o, v4, v5, v6, v7, rfl, s5, hD, hq, hi, hcl, hsub, hA, rfl⟩
    refine ⟨_, rfl, _, rfl, a, _, rfl, .inl (s5.seq hs), _, _, rfl, rfl, _, rfl, ?_⟩
    have el : (intV l).length = l.length := List.length_map _
    rw [el]
    refine ite2 (fun c => ?_) (fun c => ?_)
    · have c : i < l.length := by have := of_decide_eq_true c; omega
      obtain ⟨cc, t, cs2, f2, rfl, hci, hcl2⟩ := calls_step hcl (by
        intro z
        have := congrArg List.length z
        rw [List.length_drop] at this
        simp at this
        omega)
      have hA2 : PyVapcma.answers l = PyFlat.told done ++ ((((VapcmaNeutral.step o cc).2.length : Int) :: (VapcmaNeutral.step o cc).2) ++ PyFlat.told (PyFlat.played VapcmaNeutral.step (VapcmaNeutral.step o cc).1 cs2)) := by
        rw [hA]
        show _ ++ PyFlat.told ((VapcmaNeutral.step o cc).2 :: PyFlat.played VapcmaNeutral.step (VapcmaNeutral.step o cc).1 cs2) = _
        rw [told_cons]
        rfl
      have hlen2 := hlen
      rw [hA2] at hlen2
      simp only [List.length_append, List.length_cons] at hlen2
      have dl : ∀ {j : Nat} {z : Int}, (l.drop i)[j]? = some z → l[i + j]? = some z := fun h => by rw [List.getElem?_drop] at h; exact h
      refine ⟨fun σ' H2 => ∃ m', m' < l.length - i ∧ ∃ (i : Nat) (done : List (List Int)) (cs' : List (List (List Int))) (f' : Nat) (o : Vapcma.Obj) (v4 v5 v6 v7 : Option V), σ' = [some (.ref a), some (.ref x), some (.ref q), some (iv i), v4, v5, v6, v7] ∧ Same H H2 ∧ DeskAt (fun b => b = q) H2 L ⟨x, dx⟩ o ∧ H2 q = some (.lst (intV (PyFlat.told done))) ∧
        i ≤ l.length ∧ PyFlat.calls PyVapcma.shape f' (l.drop i) = some cs' ∧ (∀ c ∈ cs', c ∈ cs) ∧ PyVapcma.answers l = PyFlat.told done ++ PyFlat.told (PyFlat.played VapcmaNeutral.step o cs') ∧ m' = l.length - i, fun _ _ z => z, ?_⟩
      have fin : ∀ (p : Int) (b e : Nat) (xs : List Int) (v7 : Option V), xs = (l.drop b).take (e - b) → b ≤ e → e ≤ l.length → i < e → CallArgs p xs cc → l.drop e = t →
          (tSeq (tAsg (tMeth L.Desk "answer" (sp_answer L) [] E0 (tVar 1) (tCons (tVar 4) (tCons (tSl (rSlL K) (tVar 0) (tPart (tVar 5)) (tPart (tVar 6))) tNil))) (gName 7)) (tSeq (tDrop (tBM K "list" rAppend (tVar 2) (tCons (tCB (fun xs H_1 Q => ∃ p ys, xs = [V.ref p] ∧ (SqL K H_1 p ys ∨ SqT K H_1 p ys) ∧ Q (V.int ys.length) H_1) (tCons (tVar 7) tNil)) tNil))) (tSeq (tDrop (tBM K "list" rExtend (tVar 2) (tCons (tVar 7) tNil))) (tAsg (tVar 6) (gName 3)))))
          { nx := fun σ' H2 => ∃ m', m' < l.length - i ∧ ∃ (i : Nat) (done : List (List Int)) (cs' : List (List (List Int))) (f' : Nat) (o : Vapcma.Obj) (v4 v5 v6 v7 : Option V), σ' = [some (.ref a), some (.ref x), some (.ref q), some (iv i), v4, v5, v6, v7] ∧ Same H H2 ∧ DeskAt (fun b => b = q) H2 L ⟨x, dx⟩ o ∧ H2 q = some (.lst (intV (PyFlat.told done))) ∧
            i ≤ l.length ∧ PyFlat.calls PyVapcma.shape f' (l.drop i) = some cs' ∧ (∀ c ∈ cs', c ∈ cs) ∧ PyVapcma.answers l = PyFlat.told done ++ PyFlat.told (PyFlat.played VapcmaNeutral.step o cs') ∧ m' = l.length - i, rt := Q }
          [some (.ref a), some (.ref x), some (.ref q), some (iv i), some (.int p), some (iv b), some (iv e), v7] H' := by
        intro p b e xs v7 ex hbe hel hie hca ht
        obtain ⟨vd, d1, d2⟩ := hD
        refine ⟨_, rfl, x, dx, _, rfl, d1, (lk_past (by decide +kernel)).trans rfl, _, rfl, _, rfl, _, rfl, _, rfl, _, rfl, _, rfl, a, _, rfl, s5.seq hs, fun z nz => ?_⟩
        have ecut := cut_mid2 l b (e - b) (by omega)
        rw [show b + (e - b) = e by omega] at ecut
        rw [ecut, ← ex]
        have sz : Same H' (upd H' z (.lst (intV xs))) := same_new nz
        have nxq : x ≠ q := ne_of d1 hq (by intro z; cases z)
        refine ⟨fun b => b = q, ⟨x, dx⟩, o, p, z, xs, cc, rfl, DeskAt.same ⟨vd, d1, d2⟩ sz, (fun b e => by rw [show b = q from e, sz _ _ hq]; simp), upd_same, hca, fun H3 r hD3 fr3 nr hr => ?_⟩
        have hq3 : H3 q = some (.lst (intV (PyFlat.told done))) := fr3 _ _ (sz _ _ hq) (Ne.symm nxq)
        have nqr : q ≠ r := ne_of_none (sz _ _ hq) nr
        refine ⟨_, rfl, .inl ⟨rfl, _, SqL.of hq3⟩, _, rfl, r, _, rfl, .inl (SqL.of hr), q, _, _, rfl, rfl, hq3, ?_, ?_⟩
        · rw [intV, List.length_map]
          exact Nat.lt_of_le_of_lt (by omega : (PyFlat.told done).length ≤ 10000000) (by decide)
        have hq4 : upd H3 q (.lst (intV (PyFlat.told done) ++ [V.int ((intV (VapcmaNeutral.step o cc).2).length : Int)])) q = some (.lst (intV (PyFlat.told done) ++ [V.int ((intV (VapcmaNeutral.step o cc).2).length : Int)])) := upd_same
        have hr4 : upd H3 q (.lst (intV (PyFlat.told done) ++ [V.int ((intV (VapcmaNeutral.step o cc).2).length : Int)])) r = some (.lst (intV (VapcmaNeutral.step o cc).2)) := by rw [upd_ne (Ne.symm nqr)]; exact hr
        refine ⟨_, rfl, .inl ⟨rfl, _, SqL.of hq4⟩, _, rfl, q, r, _, _, rfl, rfl, hq4, hr4, ?_, ?_⟩
        · have e1 : (intV (PyFlat.told done)).length = (PyFlat.told done).length := List.length_map _
          have e2 : (intV (VapcmaNeutral.step o cc).2).length = (VapcmaNeutral.step o cc).2.length := List.length_map _
          rw [List.length_append, e1, e2, sizeLine_eq]
          simp only [List.length_cons, List.length_nil]
          omega
        refine ⟨_, rfl, l.length - e, by omega, e, done ++ [(VapcmaNeutral.step o cc).2], cs2, f2, (VapcmaNeutral.step o cc).1, _, _, _, _, rfl, fun b' o' z' => ?_, ?_, ?_, hel, ?_, fun c hc => hsub c (List.mem_cons_of_mem _ hc), ?_, rfl⟩
        · have nb : b' ≠ q := ne_of_none z' fq
          rw [upd_ne nb, upd_ne nb]
          have nbx : b' ≠ x := fun e => by
            have : H x = Option.none := nx
            rw [e, this] at z'; cases z'
          exact fr3 _ _ (sz _ _ (s5 _ _ z')) nbx
        · exact (hD3.updL hq3 rfl).updL hq4 rfl
        · rw [upd_same]
          simp only [intV, List.map_append, List.map_cons, List.map_nil, List.length_map, told_append, told_cons]
          rw [show PyFlat.told ([] : List (List Int)) = [] from rfl]
          simp
        · rw [ht]
          exact hcl2
        · rw [hA2, told_append, told_cons, show PyFlat.told ([] : List (List Int)) = [] from rfl]
          simp
      generalize el' : l.drop i = l' at hci dl fin
      have ll : l'.length = l.length - i := by rw [← el', List.length_drop]
      have dn : ∀ j, l.drop (i + j) = l'.drop j := fun j => by rw [← el', List.drop_drop]
      cases hci with
      | none p hp t =>
        have h0 := dl (j := 0) (z := p) rfl
        rw [Nat.add_zero] at h0
        have hg : atI givenV p = some (.int 0) := by rcases hp with rfl | rfl <;> rfl
        refine ⟨_, rfl, _, rfl, a, _, _, _, rfl, rfl, s5.seq hs, int_at h0, ?_⟩
        refine ⟨_, rfl, _, _, rfl, rfl, _, rfl, _, rfl, L.GIVEN, _, _, _, rfl, rfl, hG _, hg, _, _, rfl, rfl, ?_⟩
        refine ⟨_, rfl, rfl, _, rfl, ?_⟩
        refine iteF' (decide_eq_false (by rcases hp with rfl | rfl <;> (intro z; cases z))) ?_
        exact fin p (i + 1) (i + 1) [] v7 (by simp) (Nat.le_refl _) (by simp at ll; omega) (by omega) (.none p hp) (dn 1)
      | one p x1 hp t =>
        have h0 := dl (j := 0) (z := p) rfl
        rw [Nat.add_zero] at h0
        have hg : atI givenV p = some (.int 1) := by rcases hp with rfl | rfl | rfl <;> rfl
        refine ⟨_, rfl, _, rfl, a, _, _, _, rfl, rfl, s5.seq hs, int_at h0, ?_⟩
        refine ⟨_, rfl, _, _, rfl, rfl, _, rfl, _, rfl, L.GIVEN, _, _, _, rfl, rfl, hG _, hg, _, _, rfl, rfl, ?_⟩
        refine ⟨_, rfl, rfl, _, rfl, ?_⟩
        refine iteF' (decide_eq_false (by rcases hp with rfl | rfl | rfl <;> (intro z; cases z))) ?_
        exact fin p (i + 1) (i + 2) [x1] v7 (by rw [dn 1, show i + 2 - (i + 1) = 1 by omega]; rfl) (by omega) (by simp at ll; omega) (by omega) (.one p x1 hp) (dn 2)
      | two p x1 y1 hp t =>
        have h0 := dl (j := 0) (z := p) rfl
        rw [Nat.add_zero] at h0
        have hg : atI givenV p = some (.int 2) := by rcases hp with rfl | rfl | rfl <;> rfl
        refine ⟨_, rfl, _, rfl, a, _, _, _, rfl, rfl, s5.seq hs, int_at h0, ?_⟩
        refine ⟨_, rfl, _, _, rfl, rfl, _, rfl, _, rfl, L.GIVEN, _, _, _, rfl, rfl, hG _, hg, _, _, rfl, rfl, ?_⟩
        refine ⟨_, rfl, rfl, _, rfl, ?_⟩
        refine iteF' (decide_eq_false (by rcases hp with rfl | rfl | rfl <;> (intro z; cases z))) ?_
        exact fin p (i + 1) (i + 3) [x1, y1] v7 (by rw [dn 1, show i + 3 - (i + 1) = 2 by omega]; rfl) (by omega) (by simp at ll; omega) (by omega) (.two p x1 y1 hp) (dn 3)
      | load row t =>
        have h0 := dl (j := 0) (z := 0) rfl
        rw [Nat.add_zero] at h0
        have h1 := dl (j := 1) (z := (row.length : Int)) rfl
        have hg : atI givenV 0 = some (.int 1) := rfl
        refine ⟨_, rfl, _, rfl, a, _, _, _, rfl, rfl, s5.seq hs, int_at h0, ?_⟩
        refine ⟨_, rfl, _, _, rfl, rfl, _, rfl, _, rfl, L.GIVEN, _, _, _, rfl, rfl, hG _, hg, _, _, rfl, rfl, ?_⟩
        refine ⟨_, rfl, rfl, _, rfl, ?_⟩
        refine iteT' (decide_eq_true rfl) ?_
        obtain ⟨b1, b2⟩ := hrows row (hsub _ List.mem_cons_self)
        refine ⟨_, rfl, _, rfl, _, rfl, _, rfl, _, _, rfl, rfl, a, _, _, _, rfl, rfl, s5.seq hs, int_at h1, _, _, rfl, rfl, ?_⟩
        have ll : row.length + t.length + 2 = l.length - i := by simp at ll; omega
        exact fin 0 (i + 2) (i + 2 + row.length) row v7 (by rw [dn 2, show i + 2 + row.length - (i + 2) = row.length by omega]; simp) (by omega) (by omega) (by omega) (.load row b1 b2) (by rw [Nat.add_assoc, dn (2 + row.length), show (2 + row.length) = row.length + 1 + 1 by omega]; simp)
    · have c : l.drop i = [] := List.drop_eq_nil_of_le (by
        rcases Nat.lt_or_ge i l.length with h | h
        · exact absurd (decide_eq_true (by omega)) c
        · exact h)
      rw [c] at hcl
      have := calls_nil hcl
      subst this
      have hA : PyVapcma.answers l = PyFlat.told done ++ [] := hA
      rw [List.append_nil] at hA
      exact ⟨_, rfl, k H' q (by rw [hA]; exact hq)⟩
end
end Dr

namespace Dr
open PySem PySem.Spec PyProof.Rows L2
open Vapcma (Form Axiom Text_)
open VapcmBase (Bytes)
theorem desk_put (v u : V) : putF "held" u (deskF v) = deskF u := put_here
theorem desk_held (v : V) : (deskF v).lookup ("held" : Str) = some v := lk_here
theorem load_ok {o : Vapcma.Obj} {d : Bytes} {t : Text_} (h : Vapcma.read d = .ok t) : Vapcma.step o (.load d) = (some t, ⟨1, Vapcma.nats [t.axioms.length, t.rows.length, t.goals.length]⟩) := by
  cases o <;> simp [Vapcma.step, h]
theorem load_err {o : Vapcma.Obj} {d : Bytes} {f : VapcmBase.Fault} (h : Vapcma.read d = .error f) : Vapcma.step o (.load d) = (o, VapcmBase.faulty f) := by
  cases o <;> simp [Vapcma.step, h]
section
variable {P : Program} {w : World} {K : PySem.W.Frag} {mg : Str → Option Value} {base : Heap} {L : Lay}
def sp_load (L : Lay) : Sp := fun vs H Q _ => ∃ (B : Addr → Prop) (g : KAd) (o : Vapcma.Obj) (q : Addr) (row : List Int), vs = [.ref g.a, .ref q] ∧ DeskAt B H L g o ∧ (∀ b, B b → H b ≠ Option.none) ∧ H q = some (.lst (intV row)) ∧ row.length ≤ 8192 ∧ (∀ z ∈ row, 0 ≤ z ∧ z ≤ 255) ∧
  ∀ H' r, DeskAt B H' L g (VapcmaNeutral.step o [[0], row]).1 → Fr (fun b => b = g.a) H H' → H r = Option.none → H' r = some (.lst (intV (VapcmaNeutral.step o [[0], row]).2)) → Q (.ref r) H'
abbrev s_Desk_load : Stmt := inClass (top 72) 2
theorem sc_Desk_load : FnScope ["self", "data", "fault"] ["self", "data"] (defScope s_Desk_load) := ⟨rfl, rfl, rfl, by decide +kernel, rfl, by decide +kernel, by decide +kernel⟩
theorem ok_Desk_load {f : Addr} {fd : FuncData} (F : Fun K "load" "Desk.load" s_Desk_load f fd) (T : Txt K mg L) (TF : PySem.FltX.FltTxt K mg L.Fault L.FaultI)
    (h_rt : HasDef P w K mg base (L2.CX P w) 7 "read_text" ["data"] (sp_read_text K L)) (h_axiom_count : HasMeth P w K mg base CX0 1 L.Held "axiom_count" ["self"] (sp_axiom_count L)) :
    FnOk P w K mg base CX0 8 f fd ["self", "data"] (sp_load L) := by
  refine F.ok sc_Desk_load (fun vs H Q E h => ?_) (fun cdv A outer s H vs Q E hr h => ?_)
  · obtain ⟨B, g, o, q, row, rfl, _⟩ := h
    rfl
  · have n_len := T.n_len
    obtain ⟨f_read_text, fd_read_text, m_read_text, k_read_text, b_read_text, G_read_text⟩ := h_rt
    obtain ⟨f_ac, fd_ac, M_Held_axiom_count, b_Held_axiom_count, G_Held_axiom_count⟩ := h_axiom_count
    have hr1 : Room 7 _ := hr.mono (by decide)
    have xf := FltTxt_xf TF
    refine ⟨_, pss_cons (ps_try_as (i := 2) (tb := fun W => sFld K (tVar 0) (tCallS (sp_read_text K L) (WE W) (tCons (tVar 1) tNil)) "held")
          (ts := fun a cls d => tRet (tLst (tCons (tC (.int 0)) (tCons (tXf a cls d L.Fault "code" (tVar 2)) (tCons (tXf a cls d L.Fault "place" (tVar 2)) tNil))))) (Wout := fun _ _ _ _ => False) rfl rfl sc_Desk_load.nd rfl rfl ⟨rfl, by decide, Or.inl TF.gC⟩ takes0
          (fun W pn xe tk _ => pss_one (ps_fld (pv 0) (pe_callS G_read_text hr1 rfl m_read_text k_read_text b_read_text (fun σ => passAt tk σ) (by exact (pa_cons (pv 1) pa_nil))) rfl))
          (fun a oe cls d pn hz hf => pss_one (ps_ret (pe_lst (pa_cons pe_int (pa_cons (pe_xf xf TF.noC hz hf (pv 2)) (pa_cons (pe_xf xf TF.noP hz hf (pv 2)) pa_nil)))))))
      (pss_one (ps_ret (pe_lst (pa_cons pe_int (pa_cons (pe_meth0 (pe_fld (pv 0) rfl) T.cHeld M_Held_axiom_count G_Held_axiom_count (hr.mono (by decide)) b_Held_axiom_count .nil pass0) (pa_cons (pe_callB call_len_seq (by rfl) n_len PySem.boot_len (pa_cons (pe_fld (pe_fld (pv 0) rfl) rfl) pa_nil)) (pa_cons (pe_callB call_len_seq (by rfl) n_len PySem.boot_len (pa_cons (pe_fld (pe_fld (pv 0) rfl) rfl) pa_nil)) pa_nil))))))), ?_⟩
    obtain ⟨B, g, o, q, row, rfl, hD, hB, hq, hz, hby, k⟩ := h
    rw [step_load hby] at k
    obtain ⟨v, d1, d2⟩ := hD
    have hrow := bytesOf_back hby
    generalize VapcmaNeutral.bytesOf row = d at *
    have hs : SqL K H q (d.map fun b => iv b.toNat) := SqL.of (by rw [hq, hrow, intV, List.map_map]; rfl)
    have hdl : d.length ≤ 10000 := by
      have := congrArg List.length hrow
      rw [List.length_map] at this
      omega
    refine ⟨_, rfl, q, d, rfl, hs, hdl, fun t ht H1 h hH hR s1 nh hBB => ?_, fun f hf => fun H1 dx fr1 ndx hdx => ?_⟩
    · have d1' := s1 _ _ d1
      have ne : g.a ≠ h.a := ne_of_none d1 nh
      refine ⟨_, rfl, g.a, _, _, _, rfl, d1', T.cDesk, T.nDesk_held, (by show 1 < 1000; decide), ?_⟩
      rw [desk_put]
      have fr2 : Fr (fun b => b = g.a) H1 (upd H1 g.a (.ins L.Desk g.dx (deskF (.ref h.a)))) := fun b o z n => by rw [upd_ne n]; exact z
      have hH2 := hH.fr d1' ne fr2
      have lkA : (heldF h.na h.fa h.ra h.ga).lookup ("axiom_count" : Str) = Option.none := held_none _ _ _ _ (by decide +kernel) (by decide +kernel) (by decide +kernel) (by decide +kernel)
      obtain ⟨ws, r1, r2⟩ := hH2.rws
      obtain ⟨us, g1, g2, _⟩ := hH2.gls
      have dd : upd H1 g.a (.ins L.Desk g.dx (deskF (.ref h.a))) g.a = some (.ins L.Desk g.dx (deskF (.ref h.a))) := upd_same
      refine ⟨_, rfl, g.a, _, _, _, _, rfl, dd, T.cDesk, T.nDesk_held, desk_held _, h.a, _, _, rfl, hH2.obj, lkA, h, _, _, _, rfl, hH2, ?_⟩
      refine ⟨_, rfl, g.a, _, _, _, _, rfl, dd, T.cDesk, T.nDesk_held, desk_held _, h.a, _, _, _, _, rfl, hH2.obj, T.cHeld, T.nHeld_rows, held_rows _ _ _ _, h.ra, _, rfl, .inl (SqL.of r1), ?_⟩
      refine ⟨_, rfl, g.a, _, _, _, _, rfl, dd, T.cDesk, T.nDesk_held, desk_held _, h.a, _, _, _, _, rfl, hH2.obj, T.cHeld, T.nHeld_goals, held_goals _ _ _ _, h.ga, _, rfl, .inl (SqL.of g1), (by show 4 ≤ sizeLine; decide), fun p np => ?_⟩
      have e1 : ws.length = t.rows.length := by rw [r2.length, List.length_map]
      have e2 : us.length = t.goals.length := by rw [g2.length, List.length_map]
      rw [load_ok ht] at k
      have hp0 : H p = Option.none := by
        cases e : H p with
        | none => rfl
        | some o' =>
          have z := s1 _ _ e
          by_cases eb : p = g.a
          · rw [eb, upd_same] at np; cases np
          · rw [upd_ne eb, z] at np; cases np
      refine k _ p ⟨.ref h.a, ?_, h, rfl, hH2.same (same_new np), hR, fun b hb => hBB b (hB b hb)⟩ (fun b o' z n => ?_) hp0 ?_
      · exact same_new np _ _ dd
      · exact same_new np _ _ (fr2 _ _ (s1 _ _ z) n)
      · rw [upd_same, e1, e2]
        rfl
    · refine ⟨true, TF.te, fun _ a0 na0 => ?_, fun q => Bool.noConfusion q⟩
      refine ⟨_, rfl, rfl, rfl, dx, _, _, rfl, hdx, fltF_code _ _, _, rfl, rfl, rfl, dx, _, _, rfl, hdx, fltF_place _ _, (by show 3 ≤ sizeLine; decide), fun p np => ?_⟩
      rw [load_err hf] at k
      have s1 : Same H H1 := fun b o' z => fr1 b o' z fun e => e
      refine k _ p (DeskAt.same ⟨v, d1, d2⟩ (s1.trans (same_new np))) (fun b o' z n => same_new np _ _ (s1 _ _ z)) (s1.free np) ?_
      rw [upd_same]
      rfl
end
end Dr

namespace Dr
open PySem PySem.Spec PyProof.Rows L2
open Vapcma (Form Axiom Text_)
open VapcmBase (Bytes Answer)
/-- what's answered is a new list -/
def Answers (H : Hp) (Q : VK) (a : Answer) : Prop := ∀ H' r, Same H H' → H r = none → H' r = some (.lst (intV (VapcmaNeutral.encode a))) → Q (.ref r) H'
theorem one_out {H : Hp} {Q : VK} {z : Int} (k : Answers H Q (VapcmBase.one z)) {p : Addr} (np : H p = none) : Q (.ref p) (upd H p (.lst [V.int z])) := k _ p (same_new np) np (by rw [upd_same]; rfl)
theorem Answers.mono {H H1 : Hp} {Q : VK} {a : Answer} (k : Answers H Q a) (s : Same H H1) : Answers H1 Q a := fun H' r s' n h => k H' r (s.trans s') (s.free n) h
section
variable {P : Program} {w : World} {K : PySem.W.Frag} {mg : Str → Option Value} {base : Heap} {L : Lay}
def sp_has_number (K : PySem.W.Frag) : Sp := fun vs H Q _ => ∃ (a : Addr) (xs : List V) (n : Int), vs = [.ref a, .int n] ∧ SqL K H a xs ∧ Q (.bl (decide (0 ≤ n ∧ n < (xs.length : Int)))) H
abbrev s_has_number : Stmt := top 73
theorem sc_has_number : FnScope ["numbered", "number"] ["numbered", "number"] (defScope s_has_number) := ⟨rfl, rfl, rfl, by decide +kernel, rfl, by decide +kernel, by decide +kernel⟩
theorem ok_has_number {f : Addr} {fd : FuncData} (F : Fun K "has_number" "has_number" s_has_number f fd) (T : Txt K mg L) : FnOk P w K mg base CX0 1 f fd ["numbered", "number"] (sp_has_number K) := by
  refine F.ok sc_has_number (fun vs H Q E h => ?_) (fun cdv A outer s H vs Q E hr h => ?_)
  · obtain ⟨a, xs, n, rfl, _⟩ := h
    rfl
  · have n_len := T.n_len
    refine ⟨_, pss_one (ps_ret (pe_chain op_le op_lt pe_int (pv 1) (pe_callB call_len_seq (by rfl) n_len PySem.boot_len (pa_cons (pv 0) pa_nil)))), ?_⟩
    obtain ⟨a, xs, n, rfl, hs, q⟩ := h
    refine ⟨_, rfl, _, _, rfl, rfl, _, rfl, ?_⟩
    by_cases c : (0 : Int) ≤ n
    · refine iteT' (decide_eq_true c) ?_
      refine ⟨_, rfl, a, _, rfl, .inl hs, _, _, rfl, rfl, ?_⟩
      have e : decide (n < (xs.length : Int)) = decide (0 ≤ n ∧ n < (xs.length : Int)) := by rw [Bool.eq_iff_iff, decide_eq_true_iff, decide_eq_true_iff]; exact ⟨fun h => ⟨c, h⟩, fun h => h.2⟩
      show Q (.bl (decide (n < (xs.length : Int)))) H
      rw [e]
      exact q
    · refine iteF' (decide_eq_false c) ?_
      have e : decide (0 ≤ n ∧ n < (xs.length : Int)) = false := decide_eq_false fun h => c h.1
      rw [e] at q
      exact q
theorem index_some {n : Int} {m : Nat} (h : 0 ≤ n ∧ n < (m : Int)) : ∃ k : Nat, n = (k : Int) ∧ k < m ∧ VapcmBase.index n m = some k := by
  refine ⟨n.toNat, by omega, by omega, ?_⟩
  unfold VapcmBase.index
  rw [if_pos h]
theorem index_none {n : Int} {m : Nat} (h : ¬ (0 ≤ n ∧ n < (m : Int))) : VapcmBase.index n m = none := by
  unfold VapcmBase.index
  rw [if_neg h]
theorem count_eq (as_ : List Axiom) (rs : List Vapcma.Row) (gs : List Form) : Vapcma.count ⟨as_, rs, gs⟩ = as_.length + rs.length := rfl
theorem item_none {t : Text_} {n : Int} {f : Nat → Answer} (h : VapcmBase.index n (Vapcma.count t) = none) : Vapcma.withItem t n f = VapcmBase.one (-2) := by
  unfold Vapcma.withItem
  rw [h]
theorem item_some {t : Text_} {n : Int} {k : Nat} {f : Nat → Answer} (h : VapcmBase.index n (Vapcma.count t) = some k) : Vapcma.withItem t n f = f k := by
  unfold Vapcma.withItem
  rw [h]
def sp_item (L : Lay) (fn : Text_ → Int → Answer) : Sp := fun vs H Q _ => ∃ (h : HAd) (as_ : List Axiom) (rs : List Vapcma.Row) (gs : List Form) (n : Int), vs = [.ref h.a, .int n] ∧ HeldAt H L h as_ rs gs ∧ Right as_ rs gs ∧ Answers H Q (fn ⟨as_, rs, gs⟩ n)
/-! ### refusals -/
def refusalOf (t : Text_) : List Int → List Int
  | [] => []
  | n :: r => match VapcmBase.index n (Vapcma.count t) with
    | none => [-2]
    | some k => match Vapcma.formulaAt t k with
      | none => [-5]
      | some _ => refusalOf t r
/-- of one more item: refused, or there with its formula -/
theorem refusal_cases (t : Text_) (n : Int) (r : List Int) : (∃ z : Int, refusalOf t (n :: r) = [z] ∧ ∀ f, Vapcma.withFormula t n f = VapcmBase.one z) ∨
    ∃ (k : Nat) (x : Form), n = (k : Int) ∧ k < Vapcma.count t ∧ Vapcma.formulaAt t k = some x ∧ refusalOf t (n :: r) = refusalOf t r ∧ ∀ f, Vapcma.withFormula t n f = f x := by
  by_cases c : 0 ≤ n ∧ n < ((Vapcma.count t : Nat) : Int)
  · obtain ⟨k, e, hk, hix⟩ := index_some c
    cases ho : Vapcma.formulaAt t k with
    | none =>
      refine .inl ⟨-5, ?_, fun f => ?_⟩
      · unfold refusalOf
        simp only [hix, ho]
      · unfold Vapcma.withFormula
        rw [item_some hix, ho]
    | some x =>
      refine .inr ⟨k, x, e, hk, ho, ?_, fun f => ?_⟩
      · conv => lhs; unfold refusalOf
        simp only [hix, ho]
      · unfold Vapcma.withFormula
        rw [item_some hix, ho]
  · refine .inl ⟨-2, ?_, fun f => ?_⟩
    · unfold refusalOf
      simp only [index_none c]
    · unfold Vapcma.withFormula
      rw [item_none (index_none c)]
def sp_refused (L : Lay) : Sp := fun vs H Q _ => ∃ (h : HAd) (as_ : List Axiom) (rs : List Vapcma.Row) (gs : List Form) (q : Addr) (ns : List Int), vs = [.ref h.a, .ref q] ∧ HeldAt H L h as_ rs gs ∧ H q = some (.lst (intV ns)) ∧
  ∀ H' p, Same H H' → H p = none → H' p = some (.lst (intV (refusalOf ⟨as_, rs, gs⟩ ns))) → Q (.ref p) H'
abbrev s_refused : Stmt := top 75
theorem sc_refused : FnScope ["held", "items", "item"] ["held", "items"] (defScope s_refused) := ⟨rfl, rfl, rfl, by decide +kernel, rfl, by decide +kernel, by decide +kernel⟩
theorem ok_refused {f : Addr} {fd : FuncData} (F : Fun K "refused" "refused" s_refused f fd) (T : Txt K mg L) (h_has_number : HasDef P w K mg base CX0 1 "has_number" ["numbered", "number"] (sp_has_number K)) :
    FnOk P w K mg base CX0 2 f fd ["held", "items"] (sp_refused L) := by
  refine F.ok sc_refused (fun vs H Q E h => ?_) (fun cdv A outer s H vs Q E hr h => ?_)
  · obtain ⟨h, as_, rs, gs, q, ns, rfl, _⟩ := h
    rfl
  · obtain ⟨f_has_number, fd_has_number, m_has_number, k_has_number, b_has_number, G_has_number⟩ := h_has_number
    refine ⟨_, pss_cons (ps_for PassesOwn.never rfl (pi_list (pv 1)) (pg_name (i := 2) sc_refused.nd rfl (Or.inl rfl))
        (pss_cons (ps_if (pt_not (pt_val (pe_call G_has_number (hr.mono (by decide)) rfl m_has_number k_has_number b_has_number .nil pass0 (pa_cons (pe_fld (pv 0) rfl) (pa_cons (pv 2) pa_nil)))))
            (pss_one (ps_ret (pe_lst (pa_cons (pe_un un_neg pe_int) pa_nil))))
            (pss_nil))
          (pss_one (ps_if (pt_cmpR op_isN (pe_ix ix_list (pe_fld (pv 0) rfl) (pv 2) (fun _ _ => rfl)) pe_non (nomark _))
            (pss_one (ps_ret (pe_lst (pa_cons (pe_un un_neg pe_int) pa_nil))))
            (pss_nil)))))
      (pss_one (ps_ret (pe_lst pa_nil))), ?_⟩
    obtain ⟨h, as_, rs, gs, q, ns, rfl, hH, hq, k⟩ := h
    obtain ⟨vs, f1, f2, f3⟩ := hH.fs
    have e1 : vs.length = as_.length + rs.length := by rw [f2.length, formsOf_length]
    have out : ∀ {H' : Hp} {p : Addr} {l : List Int}, Same H H' → H' p = none → refusalOf ⟨as_, rs, gs⟩ ns = l → Q (.ref p) (upd H' p (.lst (intV l))) := fun s np e => k _ _ (s.trans (same_new np)) (s.free np) (by rw [upd_same, e])
    refine ⟨_, rfl, q, rfl, ⟨_, SqL.of hq⟩, for_list (K := K) (a := q) (xs := intV ns)
      (fun i σ H' => ∃ (v2 : Option V), σ = [some (.ref h.a), some (.ref q), v2] ∧ Same H H' ∧ refusalOf ⟨as_, rs, gs⟩ ns = refusalOf ⟨as_, rs, gs⟩ (ns.drop i))
      ⟨none, rfl, fun _ _ z => z, rfl⟩ (fun i σ H' _ ⟨_, _, s5, _⟩ => s5.seq (SqL.of hq)) ?_ ?_⟩
    · rintro i x σ H' hi ⟨v2, rfl, s5, hm⟩
      obtain ⟨n, hn, rfl⟩ := get_map hi
      have hd : ns.drop i = n :: ns.drop (i + 1) := by
        obtain ⟨hlt, e⟩ := List.getElem?_eq_some_iff.mp hn
        rw [List.drop_eq_getElem_cons hlt, e]
      rw [hd] at hm
      have hH' := hH.same s5
      have f1' := s5 _ _ f1
      refine ⟨_, rfl, h.a, _, _, _, _, rfl, hH'.obj, T.cHeld, T.nHeld_formulas, held_formulas _ _ _ _, _, rfl, h.fa, _, n, rfl, SqL.of f1', _, rfl, ?_⟩
      rw [e1]
      by_cases c : 0 ≤ n ∧ n < ((as_.length + rs.length : Nat) : Int)
      · refine iteF' (by rw [decide_eq_true c]; rfl) ?_
        obtain ⟨j, rfl, hj, hix⟩ := index_some c
        have hm : refusalOf ⟨as_, rs, gs⟩ ns = match Vapcma.formulaAt ⟨as_, rs, gs⟩ j with | none => [-5] | some _ => refusalOf ⟨as_, rs, gs⟩ (ns.drop (i + 1)) := by
          rw [hm]
          conv => lhs; unfold refusalOf
          rw [show Vapcma.count ⟨as_, rs, gs⟩ = as_.length + rs.length from rfl, hix]
        obtain ⟨o, ho⟩ : ∃ o, (formsOf as_ rs)[j]? = some o := ⟨_, List.getElem?_eq_getElem (by rw [formsOf_length]; exact hj)⟩
        have ef : Vapcma.formulaAt ⟨as_, rs, gs⟩ j = o := by
          show ((formsOf as_ rs)[j]?).getD none = o
          rw [ho]; rfl
        rw [ef] at hm
        obtain ⟨v, hv, hI⟩ := f2.get ho
        refine ⟨_, rfl, h.a, _, _, _, _, rfl, hH'.obj, T.cHeld, T.nHeld_formulas, held_formulas _ _ _ _, _, rfl, h.fa, _, _, _, rfl, rfl, SqL.of f1', atI_nat hv, rfl, _, rfl, ?_⟩
        cases o with
        | none =>
          obtain rfl : v = .non := hI
          refine iteT' (by decide) ?_
          refine ⟨_, rfl, (by show 1 ≤ sizeLine; decide), fun p np => ?_⟩
          exact out (l := [-5]) s5 np hm
        | some x =>
          obtain ⟨b, rfl, hb⟩ := hI
          refine iteF' (by simp) ?_
          exact ⟨_, rfl, s5, hm⟩
      · refine iteT' (by rw [decide_eq_false c]; rfl) ?_
        refine ⟨_, rfl, (by show 1 ≤ sizeLine; decide), fun p np => ?_⟩
        refine out (l := [-2]) s5 np ?_
        rw [hm]
        conv => lhs; unfold refusalOf
        rw [show Vapcma.count ⟨as_, rs, gs⟩ = as_.length + rs.length from rfl, index_none c]
    · rintro σ H' ⟨v2, rfl, s5, hm⟩
      refine ⟨(by show 0 ≤ sizeLine; decide), fun p np => ?_⟩
      refine out (l := []) s5 np ?_
      rw [hm, show (intV ns).length = ns.length from List.length_map _, List.drop_length]
      rfl
/-- a refusal that is there is given back as it is -/
theorem refused_out {t : Text_} {H H1 : Hp} {Q : VK} {p : Addr} {z : Int} (s : Same H H1) (np : H p = none) (hp : H1 p = some (.lst [V.int z])) (k : Answers H Q (VapcmBase.one z)) : Q (.ref p) H1 := k H1 p s np hp
abbrev sp_formula (L : Lay) : Sp := sp_item L fun t n => Vapcma.looked t (.formula n)
abbrev s_formula : Stmt := top 76
theorem sc_formula : FnScope ["held", "item", "refusal"] ["held", "item"] (defScope s_formula) := ⟨rfl, rfl, rfl, by decide +kernel, rfl, by decide +kernel, by decide +kernel⟩
theorem ok_formula {f : Addr} {fd : FuncData} (F : Fun K "formula" "formula" s_formula f fd) (T : Txt K mg L) (h_refused : HasDef P w K mg base CX0 2 "refused" ["held", "items"] (sp_refused L)) (h_told : HasDef P w K mg base CX0 1 "told" ["formula"] (sp_told K)) :
    FnOk P w K mg base CX0 3 f fd ["held", "item"] (sp_formula L) := by
  refine F.ok sc_formula (fun vs H Q E h => ?_) (fun cdv A outer s H vs Q E hr h => ?_)
  · obtain ⟨h, as_, rs, gs, n, rfl, _⟩ := h
    rfl
  · obtain ⟨f_refused, fd_refused, m_refused, k_refused, b_refused, G_refused⟩ := h_refused
    obtain ⟨f_told, fd_told, m_told, k_told, b_told, G_told⟩ := h_told
    refine ⟨_, pss_cons (ps_set (i := 2) sc_formula.nd rfl (Or.inl rfl) (pe_call G_refused (hr.mono (by decide)) rfl m_refused k_refused b_refused .nil pass0 (pa_cons (pv 0) (pa_cons (pe_lst (pa_cons (pv 1) pa_nil)) pa_nil))))
      (pss_cons (ps_if (pt_truth (pv 2) (by intro _; rfl))
        (pss_one (ps_ret (pv 2)))
        (pss_nil))
      (pss_one (ps_ret (pe_call G_told (hr.mono (by decide)) rfl m_told k_told b_told .nil pass0 (pa_cons (pe_ix ix_list (pe_fld (pv 0) rfl) (pv 1) (fun _ _ => rfl)) pa_nil))))), ?_⟩
    obtain ⟨h, as_, rs, gs, n, rfl, hH, hR, k⟩ := h
    have k : Answers H Q (Vapcma.withFormula ⟨as_, rs, gs⟩ n Vapcma.formAnswer) := k
    refine ⟨_, rfl, _, rfl, (by show 1 ≤ sizeLine; decide), fun q nq => ?_⟩
    have sq : Same H (upd H q (.lst [V.int n])) := same_new nq
    refine ⟨h, as_, rs, gs, q, [n], rfl, hH.same sq, upd_same, fun H1 p s1 np hp => ?_⟩
    have s2 := sq.trans s1
    refine ⟨_, rfl, _, .inl ⟨_, SqL.of hp, rfl⟩, ?_⟩
    rcases refusal_cases ⟨as_, rs, gs⟩ n [] with ⟨z, er, ef⟩ | ⟨j, x, rfl, hj, hx, er, ef⟩
    · rw [er] at hp ⊢
      rw [ef] at k
      refine iteT' rfl ?_
      exact ⟨_, rfl, k H1 p s2 (sq.free np) hp⟩
    · rw [er] at hp ⊢
      rw [ef] at k
      refine iteF' rfl ?_
      have hj : j < as_.length + rs.length := hj
      have hH1 := hH.same s2
      obtain ⟨vs, f1, f2, f3⟩ := hH1.fs
      obtain ⟨o, ho⟩ : ∃ o, (formsOf as_ rs)[j]? = some o := ⟨_, List.getElem?_eq_getElem (by rw [formsOf_length]; exact hj)⟩
      obtain rfl : o = some x := by
        have : ((formsOf as_ rs)[j]?).getD none = some x := hx
        rw [ho] at this; exact this
      obtain ⟨v, hv, hI⟩ := f2.get ho
      obtain ⟨b, rfl, hb⟩ := hI
      have sm := formsOf_small rs hR.ax x (List.mem_of_getElem? ho)
      refine ⟨_, rfl, h.a, _, _, _, _, rfl, hH1.obj, T.cHeld, T.nHeld_formulas, held_formulas _ _ _ _, _, rfl, h.fa, _, _, _, rfl, rfl, SqL.of f1, atI_nat hv, b, x, rfl, SqL.of hb, by omega, fun H' p s' np hp => ?_⟩
      exact k H' p (s2.trans s') (s2.free np) hp
/-! ### goals -/
def sp_is_proved (K : PySem.W.Frag) : Sp := fun vs H Q _ => ∃ (a : Addr) (v : V) (g : Form) (o : Option Form), vs = [.ref a, v] ∧ SqL K H a (encV g) ∧ OptIs H v o ∧ (∀ x, o = some x → Vapcma.size x ≤ 1000) ∧ ∀ H', Same H H' → Q (.bl (o.any fun f => Vapcma.instanceOf f g)) H'
abbrev s_is_proved : Stmt := top 78
theorem sc_is_proved : FnScope ["goal", "general"] ["goal", "general"] (defScope s_is_proved) := ⟨rfl, rfl, rfl, by decide +kernel, rfl, by decide +kernel, by decide +kernel⟩
theorem ok_is_proved {f : Addr} {fd : FuncData} (F : Fun K "is_proved" "is_proved" s_is_proved f fd) (T : Txt K mg L) (h_is_instance : HasDef P w K mg base CX0 3 "is_instance" ["formula", "pattern"] (sp_is_instance K)) :
    FnOk P w K mg base CX0 4 f fd ["goal", "general"] (sp_is_proved K) := by
  refine F.ok sc_is_proved (fun vs H Q E h => ?_) (fun cdv A outer s H vs Q E hr h => ?_)
  · obtain ⟨a, v, g, o, rfl, _⟩ := h
    rfl
  · obtain ⟨f_is_instance, fd_is_instance, m_is_instance, k_is_instance, b_is_instance, G_is_instance⟩ := h_is_instance
    refine ⟨_, pss_one (ps_ret (pe_and (pe_cmpR op_notN (pv 1) pe_non (nomark _)) (pe_one (pe_call G_is_instance (hr.mono (by decide)) rfl m_is_instance k_is_instance b_is_instance .nil pass0 (pa_cons (pv 0) (pa_cons (pv 1) pa_nil)))))), ?_⟩
    obtain ⟨a, v, g, o, rfl, ha, hI, hz, k⟩ := h
    refine ⟨_, rfl, rfl, _, rfl, ?_⟩
    cases o with
    | none =>
      obtain rfl : v = .non := hI
      refine iteF' (by decide) ?_
      exact k H fun _ _ z => z
    | some x =>
      obtain ⟨b, rfl, hb⟩ := hI
      refine iteT' (by simp) ?_
      exact ⟨_, rfl, _, rfl, a, b, g, x, rfl, ha, SqL.of hb, hz x rfl, fun H1 s1 => k H1 s1⟩
def sp_proves (L : Lay) : Sp := fun vs H Q _ => ∃ (h : HAd) (as_ : List Axiom) (rs : List Vapcma.Row) (gs : List Form) (n m : Int), vs = [.ref h.a, .int n, .int m] ∧ HeldAt H L h as_ rs gs ∧ Right as_ rs gs ∧ Answers H Q (Vapcma.looked ⟨as_, rs, gs⟩ (.proves n m))
abbrev s_proves : Stmt := top 79
theorem sc_proves : FnScope ["held", "item", "goal"] ["held", "item", "goal"] (defScope s_proves) := ⟨rfl, rfl, rfl, by decide +kernel, rfl, by decide +kernel, by decide +kernel⟩
theorem ok_proves {f : Addr} {fd : FuncData} (F : Fun K "proves" "proves" s_proves f fd) (T : Txt K mg L) (h_has_number : HasDef P w K mg base CX0 1 "has_number" ["numbered", "number"] (sp_has_number K)) (h_is_proved : HasDef P w K mg base CX0 4 "is_proved" ["goal", "general"] (sp_is_proved K)) :
    FnOk P w K mg base CX0 5 f fd ["held", "item", "goal"] (sp_proves L) := by
  refine F.ok sc_proves (fun vs H Q E h => ?_) (fun cdv A outer s H vs Q E hr h => ?_)
  · obtain ⟨h, as_, rs, gs, n, m, rfl, _⟩ := h
    rfl
  · obtain ⟨f_has_number, fd_has_number, m_has_number, k_has_number, b_has_number, G_has_number⟩ := h_has_number
    obtain ⟨f_is_proved, fd_is_proved, m_is_proved, k_is_proved, b_is_proved, G_is_proved⟩ := h_is_proved
    refine ⟨_, pss_cons (ps_if (pt_not (pt_val (pe_call G_has_number (hr.mono (by decide)) rfl m_has_number k_has_number b_has_number .nil pass0 (pa_cons (pe_fld (pv 0) rfl) (pa_cons (pv 1) pa_nil)))))
        (pss_one (ps_ret (pe_lst (pa_cons (pe_un un_neg pe_int) pa_nil))))
        (pss_nil))
      (pss_cons (ps_if (pt_not (pt_val (pe_call G_has_number (hr.mono (by decide)) rfl m_has_number k_has_number b_has_number .nil pass0 (pa_cons (pe_fld (pv 0) rfl) (pa_cons (pv 2) pa_nil)))))
        (pss_one (ps_ret (pe_lst (pa_cons (pe_un un_neg pe_int) pa_nil))))
        (pss_nil))
      (pss_one (ps_ret (pe_ifExp (pt_val (pe_call G_is_proved (hr.mono (by decide)) rfl m_is_proved k_is_proved b_is_proved .nil pass0 (pa_cons (pe_ix ix_list (pe_fld (pv 0) rfl) (pv 2) (fun _ _ => rfl)) (pa_cons (pe_ix ix_list (pe_fld (pv 0) rfl) (pv 1) (fun _ _ => rfl)) pa_nil)))) (pe_lst (pa_cons pe_int pa_nil)) (pe_lst (pa_cons pe_int pa_nil)))))), ?_⟩
    obtain ⟨h, as_, rs, gs, n, m, rfl, hH, hR, k⟩ := h
    obtain ⟨vs, f1, f2, f3⟩ := hH.fs
    obtain ⟨us, g1, g2, g3⟩ := hH.gls
    have e1 : vs.length = as_.length + rs.length := by rw [f2.length, formsOf_length]
    have e2 : us.length = gs.length := by rw [g2.length, List.length_map]
    have k : Answers H Q (Vapcma.withItem ⟨as_, rs, gs⟩ n fun k => (match (VapcmBase.index m gs.length).bind fun m => gs[m]? with
      | none => VapcmBase.one (-3)
      | some f => VapcmBase.one (if Vapcma.proves ⟨as_, rs, gs⟩ k f = true then 1 else 0))) := k
    refine ⟨_, rfl, h.a, _, _, _, _, rfl, hH.obj, T.cHeld, T.nHeld_formulas, held_formulas _ _ _ _, _, rfl, h.fa, _, n, rfl, SqL.of f1, _, rfl, ?_⟩
    rw [e1]
    by_cases c : 0 ≤ n ∧ n < ((as_.length + rs.length : Nat) : Int)
    · refine iteF' (by rw [decide_eq_true c]; rfl) ?_
      obtain ⟨j, rfl, hj, hix⟩ := index_some c
      rw [item_some (t := ⟨as_, rs, gs⟩) hix] at k
      refine ⟨_, rfl, h.a, _, _, _, _, rfl, hH.obj, T.cHeld, T.nHeld_goals, held_goals _ _ _ _, _, rfl, h.ga, _, m, rfl, SqL.of g1, _, rfl, ?_⟩
      rw [e2]
      by_cases c2 : 0 ≤ m ∧ m < (gs.length : Int)
      · refine iteF' (by rw [decide_eq_true c2]; rfl) ?_
        obtain ⟨i, rfl, hi, hix2⟩ := index_some c2
        obtain ⟨g, hg⟩ : ∃ g, gs[i]? = some g := ⟨_, List.getElem?_eq_getElem hi⟩
        rw [hix2, Option.bind_some, hg] at k
        have k : Answers H Q (VapcmBase.one (if Vapcma.proves ⟨as_, rs, gs⟩ j g = true then 1 else 0)) := k
        obtain ⟨o, ho⟩ : ∃ o, (formsOf as_ rs)[j]? = some o := ⟨_, List.getElem?_eq_getElem (by rw [formsOf_length]; exact hj)⟩
        have ep : Vapcma.proves ⟨as_, rs, gs⟩ j g = o.any fun f => Vapcma.instanceOf f g := by
          show (((formsOf as_ rs)[j]?).getD none).any _ = _
          rw [ho]; rfl
        rw [ep] at k
        obtain ⟨v, hv, hI⟩ := f2.get ho
        obtain ⟨u, hu, hJ⟩ := g2.get (i := i) (o := some g) (by rw [List.getElem?_map, hg]; rfl)
        obtain ⟨bg, rfl, hbg⟩ := hJ
        refine ⟨_, rfl, h.a, _, _, _, _, rfl, hH.obj, T.cHeld, T.nHeld_goals, held_goals _ _ _ _, _, rfl, h.ga, _, _, _, rfl, rfl, SqL.of g1, atI_nat hu, ?_⟩
        refine ⟨_, rfl, h.a, _, _, _, _, rfl, hH.obj, T.cHeld, T.nHeld_formulas, held_formulas _ _ _ _, _, rfl, h.fa, _, _, _, rfl, rfl, SqL.of f1, atI_nat hv, ?_⟩
        refine ⟨bg, v, g, o, rfl, SqL.of hbg, hI, fun x hx => ?_, fun H1 s1 => ?_⟩
        · have sm := formsOf_small rs hR.ax x (by rw [← hx]; exact List.mem_of_getElem? ho)
          omega
        refine ⟨_, rfl, ?_⟩
        have k1 := k.mono s1
        refine ite2 (fun c => ?_) (fun c => ?_)
        · rw [if_pos c] at k1
          refine ⟨(by show 1 ≤ sizeLine; decide), fun p np => ?_⟩
          exact one_out (z := 1) k1 np
        · rw [if_neg c] at k1
          refine ⟨(by show 1 ≤ sizeLine; decide), fun p np => ?_⟩
          exact one_out (z := 0) k1 np
      · refine iteT' (by rw [decide_eq_false c2]; rfl) ?_
        rw [index_none c2] at k
        refine ⟨_, rfl, (by show 1 ≤ sizeLine; decide), fun p np => ?_⟩
        exact one_out (z := -3) k np
    · refine iteT' (by rw [decide_eq_false c]; rfl) ?_
      rw [item_none (t := ⟨as_, rs, gs⟩) (index_none c)] at k
      refine ⟨_, rfl, (by show 1 ≤ sizeLine; decide), fun p np => ?_⟩
      exact one_out (z := -2) k np
end
end Dr

namespace Dr
open PySem PySem.Spec PyProof.Rows L2
open Vapcma (Form Axiom Text_)
open VapcmBase (Bytes Answer)
/-- a list made of a text's signs -/
theorem lc_its {z : List Nat} {g : TG} {tt : TT} {te : TE} {vs : List Nat} {σ : L2.St} {H1 : Hp} {D : Addr} {Qd : Hp → Prop} (Pv : Nat → Hp → Prop) (h0 : Pv 0 (upd H1 D (.lst [])))
    (hs : ∀ i c H, z[i]? = some c → Pv i H → g (.str (SX.S [c])) (wipe σ vs) H fun σ2 H2 => wipe σ2 vs = wipe σ vs ∧ tt σ2 H2 fun b H3 =>
      if b = true then te σ2 H3 fun y H4 => ∃ acc, H4 D = some (.lst acc) ∧ acc.length < sizeLine ∧ Pv (i + 1) (upd H4 D (.lst (acc ++ [y]))) else Pv (i + 1) H3) (hd : ∀ H, Pv z.length H → Qd H) :
    ∃ W : Nat → Nat → Hp → Prop, (∃ m, W 0 m (upd H1 D (.lst []))) ∧ ∀ i m H, W i m H →
      ((Its (SX.S z)).stop i H ∧ Qd H) ∨ ((Its (SX.S z)).go i H ∧ ∃ Nx : Hp → Prop, (∀ H', Nx H' → ∃ m', m' < m ∧ W (i + 1) m' H') ∧ ∀ x H', (Its (SX.S z)).yld i H x H' → g x (wipe σ vs) H' fun σ2 H2 => wipe σ2 vs = wipe σ vs ∧ tt σ2 H2 fun b H3 =>
        if b = true then te σ2 H3 fun y H4 => ∃ acc, H4 D = some (.lst acc) ∧ acc.length < sizeLine ∧ Nx (upd H4 D (.lst (acc ++ [y]))) else Nx H3) := by
  refine ⟨fun i m H => m = z.length - i ∧ i ≤ z.length ∧ Pv i H, ⟨z.length, rfl, Nat.zero_le _, h0⟩, ?_⟩
  rintro i m H ⟨rfl, hi, p⟩
  by_cases hlt : i < z.length
  · refine .inr ⟨by show i < z.toArray.size; simpa using hlt, Pv (i + 1), fun H' p' => ⟨z.length - (i + 1), by omega, rfl, hlt, p'⟩, fun x H' y => ?_⟩
    obtain ⟨rfl, c, hc, rfl⟩ := y
    exact hs i c H' (by simpa using hc) p
  · have e : i = z.length := by omega
    subst e
    exact .inl ⟨by show z.toArray.size ≤ z.length; simp, hd H p⟩
section
variable {P : Program} {w : World} {K : PySem.W.Frag} {mg : Str → Option Value} {base : Heap} {L : Lay}
def sp_shown (L : Lay) : Sp := fun vs H Q _ => ∃ (h : HAd) (as_ : List Axiom) (rs : List Vapcma.Row) (gs : List Form), vs = [.ref h.a] ∧ HeldAt H L h as_ rs gs ∧ Right as_ rs gs ∧ Answers H Q (Vapcma.looked ⟨as_, rs, gs⟩ .shown)
abbrev s_shown : Stmt := top 74
theorem sc_shown : FnScope ["held", "form", "character"] ["held"] (defScope s_shown) := ⟨rfl, rfl, rfl, by decide +kernel, rfl, by decide +kernel, by decide +kernel⟩
theorem shown_len {as_ : List Axiom} {rs : List Vapcma.Row} {gs : List Form} (hR : Right as_ rs gs) : (Vapcma.shown ⟨as_, rs, gs⟩).length ≤ 20000 := by
  have e0 : (nb (Vapcma.shown ⟨as_, rs, gs⟩)).length = (Vapcma.shown ⟨as_, rs, gs⟩).length := List.length_map _
  rw [← e0, shown_eq]
  have nmL : ∀ n : Bytes, (nb n).length = n.length := fun n => List.length_map _
  have bound : ∀ x ∈ allN as_ rs gs, x.length ≤ 500 := by
    intro x hx
    rcases List.mem_append.mp hx with hx | hx
    · obtain ⟨a, ha, rfl⟩ := List.mem_map.mp hx
      obtain ⟨ax1, ax2⟩ := hR.ax a ha
      have vsm := vars_small ax1
      have shl := showN_len a.f (fun v hv => by have := vsm v hv; omega)
      have := (hR.nm a.name (by unfold namesOf; exact List.mem_append_left _ (List.mem_map_of_mem ha))).2
      rw [axN_eq]
      simp only [List.length_append, nmL, List.length_cons, List.length_nil]
      omega
    · rcases List.mem_append.mp hx with hx | hx
      · obtain ⟨r, hr, rfl⟩ := List.mem_map.mp hx
        have h0 := (hR.nm r.name (by unfold namesOf; exact List.mem_append_right _ (List.mem_map_of_mem hr))).2
        have hgl : ∀ j : Nat, ((namesOf as_ rs)[j]?.getD []).length ≤ 16 := fun j => by
          cases e : (namesOf as_ rs)[j]? with
          | none => simp
          | some n => exact (hR.nm _ (List.mem_of_getElem? e)).2
        have h1 := hgl r.i
        have h2 := hgl r.j
        rw [rowN_eq]
        simp only [List.length_append, nmL, List.length_cons, List.length_nil]
        omega
      · obtain ⟨g, hg, rfl⟩ := List.mem_map.mp hx
        obtain ⟨ax1, ax2⟩ := hR.gl g hg
        have vsm := vars_small ax1
        have shl := showN_len g (fun v hv => by have := vsm v hv; omega)
        rw [goalN_eq]
        simp only [List.length_append, List.length_cons, List.length_nil]
        omega
  have hfl : ∀ l : List (List Nat), (∀ x ∈ l, x.length ≤ 500) → l.flatten.length ≤ 500 * l.length := by
    intro l
    induction l with
    | nil => intro _; simp
    | cons x l ih =>
      intro hl
      have h1 := hl x List.mem_cons_self
      have h2 := ih fun y hy => hl y (List.mem_cons_of_mem _ hy)
      rw [List.flatten_cons, List.length_append, List.length_cons]
      omega
  have hb := hfl _ bound
  have hal : (allN as_ rs gs).length ≤ 34 := by
    have h1 := hR.na
    have h2 := hR.nr
    have h3 := hR.ng
    unfold allN
    simp only [List.length_append, List.length_map]
    omega
  omega
theorem ok_shown {f : Addr} {fd : FuncData} (F : Fun K "shown" "shown" s_shown f fd) (T : Txt K mg L) (h_one_form : HasDef P w K mg base CX0 3 "one_form" ["held"] (sp_one_form L)) : FnOk P w K mg base CX0 4 f fd ["held"] (sp_shown L) := by
  refine F.ok sc_shown (fun vs H Q E h => ?_) (fun cdv A outer s H vs Q E hr h => ?_)
  · obtain ⟨h, as_, rs, gs, rfl, _⟩ := h
    rfl
  · have n_len := T.n_len
    have n_ord := T.n_ord
    obtain ⟨f_one_form, fd_one_form, m_one_form, k_one_form, b_one_form, G_one_form⟩ := h_one_form
    refine ⟨_, pss_cons (ps_set (i := 1) sc_shown.nd rfl (Or.inl rfl) (pe_call G_one_form (hr.mono (by decide)) rfl m_one_form k_one_form b_one_form .nil pass0 (pa_cons (pv 0) pa_nil)))
      (pss_one (ps_ret (pe_op op_cat (pe_lst (pa_cons (pe_callB call_len_str (by rfl) n_len PySem.boot_len (pa_cons (pv 1) pa_nil)) pa_nil))
        (pe_lc (own := [("character", 2)]) (g := gName 2) (tt := tYes) rfl sc_shown.nd (pi_str (pv 1)) (blkOk_by (own := [("character", 2)]) (N := ["held", "form", "character"]) (sc := defScope s_shown) (by decide +kernel)) (fun _ _ _ _ _ => pg_name (i := 2) sc_shown.nd rfl (Or.inl rfl)) (fun _ _ _ _ _ => pts_nil)
          (fun _ _ _ _ _ => pe_callB call_ord (by rfl) n_ord (by decide +kernel) (pa_cons (pv 2) pa_nil)))))), ?_⟩
    obtain ⟨h, as_, rs, gs, rfl, hH, hR, k⟩ := h
    have hlen := shown_len hR
    refine ⟨_, rfl, h, as_, rs, gs, rfl, hH, hR, fun H1 s1 => ?_⟩
    generalize es : Vapcma.shown ⟨as_, rs, gs⟩ = b at *
    have k : Answers H Q (VapcmBase.textAnswer b) := by rw [← es]; exact k
    have nl : (SX.S (nb b)).length = b.length := by rw [SX.S_len]; exact List.length_map _
    refine ⟨_, rfl, _, rfl, by rw [nl]; exact fits_of (by omega), (by show 1 ≤ sizeLine; decide), fun p np => ?_⟩
    rw [nl]
    refine ⟨_, rfl, _, rfl, fun D nD => ?_⟩
    have npD : p ≠ D := ne_of_none upd_same nD
    have sD : Same H (upd H1 p (.lst [V.int (b.length : Int)])) := s1.trans (same_new np)
    have fD : H D = none := sD.free nD
    refine lc_its (z := nb b) (fun i H2 => Same H H2 ∧ H2 p = some (.lst [V.int (b.length : Int)]) ∧ H2 D = some (.lst (((nb b).take i).map iv)))
      ⟨sD.trans (same_new nD), by rw [upd_ne npD, upd_same], upd_same⟩ ?_ ?_
    · rintro i c H2 hc ⟨s2, hp2, hD2⟩
      have hil : i < b.length := by
        have := (List.getElem?_eq_some_iff.mp hc).1
        have e0 : (nb b).length = b.length := List.length_map _
        omega
      refine ⟨rfl, _, rfl, _, rfl, rfl, _, hD2, by simp; exact fitslt_of (by omega), fun a o z => ?_, ?_, ?_⟩
      · rw [upd_ne (ne_of_none z fD)]; exact s2 a o z
      · rw [upd_ne npD]; exact hp2
      · rw [upd_same, take_succ' hc, List.map_append]
        rfl
    · rintro H2 ⟨s2, hp2, hD2⟩
      rw [List.take_length] at hD2
      refine ⟨p, D, _, _, rfl, rfl, hp2, hD2, ?_, fun r nr => ?_⟩
      · have e0 : (nb b).length = b.length := List.length_map _
        rw [List.length_map, e0]
        exact fits_of (by simp; omega)
      · refine k _ r (s2.trans (same_new nr)) (s2.free nr) ?_
        rw [upd_same]
        congr 2
        unfold intV VapcmaNeutral.encode VapcmBase.textAnswer nb
        simp [iv]
end
end Dr

namespace Dr
open PySem PySem.Spec PyProof.Rows L2
open Vapcma (Form Axiom Text_)
open VapcmBase (Bytes Answer)
/-- a loop over a range with a step -/
theorem for_itc {lo c : Int} {n : Nat} {g : TG} {tb : TS} {D : Ends} {σ : L2.St} {H : Hp} (Pv : Nat → L2.St → Hp → Prop) (h0 : Pv 0 σ H)
    (hs : ∀ (i : Nat) σ H, i < n → Pv i σ H → g (.int (lo + (i : Int) * c)) σ H fun σ2 H2 => tb { D with nx := Pv (i + 1), ct := Pv (i + 1), bk := D.nx } σ2 H2) (hd : ∀ σ H, Pv n σ H → D.nx σ H) :
    ∃ W : Nat → Nat → L2.St → Hp → Prop, (∃ m, W 0 m σ H) ∧ ∀ i m σ H, W i m σ H →
      ((Itc lo c n).stop i H ∧ D.nx σ H) ∨ ((Itc lo c n).go i H ∧ ∃ N : L2.St → Hp → Prop, (∀ σ' H', N σ' H' → ∃ m', m' < m ∧ W (i + 1) m' σ' H') ∧ ∀ v H', (Itc lo c n).yld i H v H' → g v σ H' fun σ2 H2 => tb { D with nx := N, ct := N, bk := D.nx } σ2 H2) := by
  refine ⟨fun i m σ H => m = n - i ∧ i ≤ n ∧ Pv i σ H, ⟨n, rfl, Nat.zero_le _, h0⟩, ?_⟩
  rintro i m σ H ⟨rfl, hi, p⟩
  by_cases hlt : i < n
  · refine .inr ⟨hlt, Pv (i + 1), fun σ' H' p' => ⟨n - (i + 1), by omega, rfl, hlt, p'⟩, fun v H' y => ?_⟩
    obtain ⟨rfl, rfl⟩ := y
    exact hs i σ H' hlt p
  · have e : i = n := by omega
    subst e
    exact .inl ⟨Nat.le_refl _, hd σ H p⟩
def trueK (ks : List Nat) : List (Key × V) := ks.map fun (k : Nat) => (Sum.inl (k : Int), V.bl true)
theorem trueK_val {ks : List Nat} {x : Nat} : (valV (trueK ks) (Sum.inl (x : Int))).isSome = ks.contains x := by
  induction ks with
  | nil => rfl
  | cons a ks ih =>
    show (valV ((Sum.inl (a : Int), V.bl true) :: trueK ks) (Sum.inl (x : Int))).isSome = _
    by_cases e : a = x
    · subst e
      rw [valV_pos rfl]
      simp
    · rw [valV_neg (by intro z; have := Sum.inl.inj z; omega), ih, List.contains_cons]
      have : (x == a) = false := by rw [beq_eq_false_iff_ne]; exact fun z => e z.symm
      rw [this, Bool.false_or]
theorem trueK_put {ks : List Nat} {x : Nat} : putK (trueK ks) (Sum.inl (x : Int)) (.bl true) = trueK (addN ks x) := by
  unfold addN
  by_cases h : ks.contains x = true
  · rw [if_pos h]
    unfold putK
    rw [if_pos (by rw [valV_any, trueK_val]; exact h)]
    unfold trueK
    rw [List.map_map]
    refine List.map_congr_left fun k _ => ?_
    simp only [Function.comp]
    split <;> rfl
  · rw [if_neg h]
    have hn : valV (trueK ks) (Sum.inl (x : Int)) = none := by
      have := trueK_val (ks := ks) (x := x)
      cases e : valV (trueK ks) (Sum.inl (x : Int)) with
      | none => rfl
      | some v => rw [e] at this; exact absurd this.symm h
    rw [putK_new _ hn]
    simp [trueK]
theorem nodup_short {ks : List Nat} {c : Nat} (hn : ks.Nodup) (hc : ∀ x ∈ ks, x < c) : ks.length ≤ c := by
  have h1 : ks.Perm ((List.range c).filter fun k => ks.contains k) := by
    rw [List.perm_iff_count]
    intro a
    have hd : ((List.range c).filter fun k => ks.contains k).Nodup := List.nodup_range.filter _
    rw [List.Nodup.count hn, List.Nodup.count hd]
    have : a ∈ ks ↔ a ∈ (List.range c).filter fun k => ks.contains k := by
      rw [List.mem_filter, List.mem_range, List.contains_iff_mem]
      exact ⟨fun h => ⟨hc a h, h⟩, fun h => h.2⟩
    simp only [this]
  rw [h1.length_eq]
  have := List.length_filter_le (fun k => ks.contains k) (List.range c)
  rw [List.length_range] at this
  exact this
section
variable {P : Program} {w : World} {K : PySem.W.Frag} {mg : Str → Option Value} {base : Heap} {L : Lay}
def hungOf (as_ : List Axiom) (rs : List Vapcma.Row) (gs : List Form) (k : Nat) : List Nat := (Vapcma.needs ⟨as_, rs, gs⟩ k).filter fun m => decide (as_.length ≤ m)
def sp_items_hung_on (L : Lay) : Sp := fun vs H Q _ => ∃ (h : HAd) (as_ : List Axiom) (rs : List Vapcma.Row) (gs : List Form) (k : Nat), vs = [.ref h.a, iv k] ∧ HeldAt H L h as_ rs gs ∧ Right as_ rs gs ∧ k < as_.length + rs.length ∧
  ((Vapcma.needs ⟨as_, rs, gs⟩ k).length ≤ 40 → ∀ H' p, Same H H' → H p = none → H' p = some (.lst ((Vapcma.needs ⟨as_, rs, gs⟩ k).map iv)) → Q (.ref p) H')
abbrev s_items_hung_on : Stmt := top 22
theorem sc_items_hung_on : FnScope ["held", "item", "hung", "number", "pair"] ["held", "item"] (defScope s_items_hung_on) := ⟨rfl, rfl, rfl, by decide +kernel, rfl, by decide +kernel, by decide +kernel⟩
theorem ok_items_hung_on {f : Addr} {fd : FuncData} (F : Fun K "items_hung_on" "items_hung_on" s_items_hung_on f fd) (T : Txt K mg L) (h_axiom_count : HasMeth P w K mg base CX0 1 L.Held "axiom_count" ["self"] (sp_axiom_count L)) :
    FnOk P w K mg base CX0 2 f fd ["held", "item"] (sp_items_hung_on L) := by
  refine F.ok sc_items_hung_on (fun vs H Q E h => ?_) (fun cdv A outer s H vs Q E hr h => ?_)
  · obtain ⟨h, as_, rs, gs, k, rfl, _⟩ := h
    rfl
  · have n_range := T.n_range
    have n_sorted := T.n_sorted
    have hu := hu_of hr
    obtain ⟨f_ac, fd_ac, M_Held_axiom_count, b_Held_axiom_count, G_Held_axiom_count⟩ := h_axiom_count
    refine ⟨_, pss_cons (ps_set (i := 2) sc_items_hung_on.nd rfl (Or.inl rfl) (pe_disp (pps_cons (pv 1) pe_bl pps_nil) rfl rfl (by simp) (by decide)))
      (pss_cons (ps_for PassesOwn.never rfl (pi_range3 (by rfl) n_range (pa_cons (pv 1) (pa_cons (pe_op op_sub (pe_meth0 (pv 0) T.cHeld M_Held_axiom_count G_Held_axiom_count (hr.mono (by decide)) b_Held_axiom_count .nil pass0) pe_int) (pa_cons (pe_un un_neg pe_int) pa_nil)))) (pg_name (i := 3) sc_items_hung_on.nd rfl (Or.inl rfl))
        (pss_one (ps_if (pt_cmp (pc_din hu (pv 3) (pv 2)))
            (pss_cons (ps_set (i := 4) sc_items_hung_on.nd rfl (Or.inl rfl) (pe_ix ix_list (pe_fld (pv 0) rfl) (pe_op op_sub (pv 3) (pe_meth0 (pv 0) T.cHeld M_Held_axiom_count G_Held_axiom_count (hr.mono (by decide)) b_Held_axiom_count .nil pass0)) (fun _ _ => rfl)))
              (pss_cons (ps_dput hu (pv 2) (pe_ix ix_tup (pv 4) pe_int (fun _ _ => rfl)) pe_bl rfl)
              (pss_one (ps_dput hu (pv 2) (pe_ix ix_tup (pv 4) pe_int (fun _ _ => rfl)) pe_bl rfl))))
            (pss_nil))))
      (pss_one (ps_ret (pe_callB (call_sortedDI rfl) (by rfl) n_sorted (by decide +kernel) (pa_cons (pv 2) pa_nil))))), ?_⟩
    obtain ⟨h, as_, rs, gs, k, rfl, hH, hR, hk, q⟩ := h
    have hna := hR.na
    have hnr := hR.nr
    have lkA : (heldF h.na h.fa h.ra h.ga).lookup ("axiom_count" : Str) = none := held_none _ _ _ _ (by decide +kernel) (by decide +kernel) (by decide +kernel) (by decide +kernel)
    obtain ⟨ws, r1, r2⟩ := hH.rws
    have ew : ws.length = rs.length := by rw [r2.length, List.length_map]
    intro p np
    refine ⟨_, rfl, upd_same, [(Sum.inl (k : Int), .bl true)], rfl, (by show 1 ≤ 15; decide), ?_⟩
    have e0 : mergeK [] [(Sum.inl (k : Int), V.bl true)] = trueK [k] := rfl
    rw [upd_upd, e0]
    have s1 : Same H (upd H p (.dK (trueK [k]))) := same_new np
    have hH1 := hH.same s1
    obtain ⟨n, hn, hkn, hneed⟩ : ∃ n : Nat, ((k : Int) - ((as_.length : Int) - 1)).toNat = n ∧ (0 < n → as_.length + n = k + 1) ∧ Vapcma.needsBy ⟨as_, rs, gs⟩ rs.length [k] = Vapcma.needsBy ⟨as_, rs, gs⟩ n [k] := by
      refine ⟨_, rfl, fun h => by omega, ?_⟩
      refine needsBy_skip ⟨as_, rs, gs⟩ [k] rs.length _ (by omega) fun j h1 h2 => ?_
      have h1 : ((k : Int) - ((as_.length : Int) - 1)).toNat ≤ j := h1
      show as_.length + j ∉ [k]
      simp only [List.mem_singleton]
      omega
    refine ⟨_, rfl, _, rfl, h.a, _, _, rfl, hH1.obj, lkA, h, as_, rs, gs, rfl, hH1, _, _, rfl, rfl, _, rfl, _, _, _, n, rfl, hn ▸ RgC.neg (by show -(2 ^ 62) ≤ (k : Int); omega) (by show (k : Int) < 2 ^ 62; omega) (by omega) (by omega), ?_⟩
    refine for_itc (fun i σ H' => ∃ (ks l : List Nat) (v3 v4 : Option V), σ = [some (.ref h.a), some (iv k), some (.ref p), v3, v4] ∧ Same H H' ∧ H' p = some (.dK (trueK ks)) ∧ ks.Nodup ∧ (∀ x, x ∈ ks ↔ x ∈ l) ∧ (∀ x ∈ l, x < as_.length + rs.length) ∧ Vapcma.needsBy ⟨as_, rs, gs⟩ rs.length [k] = Vapcma.needsBy ⟨as_, rs, gs⟩ (n - i) l)
      ⟨[k], [k], none, none, rfl, s1, upd_same, by simp, fun x => Iff.rfl, fun x hx => by rw [List.mem_singleton.mp hx]; exact hk, hneed⟩ ?_ ?_
    · rintro i σ H' hi ⟨ks, l, v3, v4, rfl, s5, hd, hnd, hmem, hlt, hnb⟩
      have hkn := hkn (by omega)
      have ek : V.int ((k : Int) + (i : Int) * (-1)) = iv (k - i) := by
        show V.int _ = V.int _
        congr 1
        omega
      show gName 3 (V.int ((k : Int) + (i : Int) * (-1))) _ _ _
      rw [ek]
      obtain ⟨j, hj⟩ : ∃ j, n - i = j + 1 := ⟨n - i - 1, by omega⟩
      have hkj : k - i = as_.length + j := by omega
      have hjr : j < rs.length := by omega
      obtain ⟨r, hr1⟩ : ∃ r, rs[j]? = some r := ⟨_, List.getElem?_eq_getElem hjr⟩
      have hH' := hH.same s5
      have r1' := s5 _ _ r1
      have step := needsBy_row (t := ⟨as_, rs, gs⟩) (l := l) (n := j) hr1
      rw [hj, step] at hnb
      have hnb : Vapcma.needsBy ⟨as_, rs, gs⟩ rs.length [k] = if l.contains (as_.length + j) = true then Vapcma.needsBy ⟨as_, rs, gs⟩ j (l ++ [r.i, r.j]) else Vapcma.needsBy ⟨as_, rs, gs⟩ j l := hnb
      have ks_l : ks.contains (k - i) = l.contains (as_.length + j) := by
        rw [hkj, Bool.eq_iff_iff, List.contains_iff_mem, List.contains_iff_mem, hmem]
      have kl := nodup_short hnd (fun x hx => hlt x ((hmem x).mp hx))
      have enj : n - (i + 1) = j := by omega
      refine ⟨_, rfl, _, rfl, p, _, rfl, DGet.k (k := Sum.inl ((k - i : Nat) : Int)) hd, _, rfl, ?_⟩
      rw [trueK_val, ks_l]
      cases hc : l.contains (as_.length + j) with
      | false =>
        rw [hc, if_neg (by decide)] at hnb
        refine iteF' rfl ?_
        exact ⟨ks, l, _, _, rfl, s5, hd, hnd, hmem, hlt, by rw [enj]; exact hnb⟩
      | true =>
        rw [hc, if_pos rfl] at hnb
        refine iteT' rfl ?_
        obtain ⟨b1, b2⟩ := hR.row j r hr1
        obtain ⟨t2, ht1, ht2⟩ := r2.get (i := j) (p := [r.i, r.j]) (by rw [List.getElem?_map, hr1]; rfl)
        have ht2' := s5 _ _ ht2
        have eat : atI ws (((k - i : Nat) : Int) - (as_.length : Int)) = some (.ref t2) := by
          have : (((k - i : Nat) : Int) - (as_.length : Int)) = (j : Int) := by omega
          rw [this]
          exact atI_nat ht1
        refine ⟨_, rfl, h.a, _, _, _, _, rfl, hH'.obj, T.cHeld, T.nHeld_rows, held_rows _ _ _ _, _, rfl, _, rfl, h.a, _, _, rfl, hH'.obj, lkA, h, as_, rs, gs, rfl, hH', _, _, rfl, rfl, h.ra, _, _, _, rfl, rfl, SqL.of r1', eat, ?_⟩
        refine ⟨_, rfl, _, rfl, t2, _, 0, _, rfl, rfl, SqT.of ht2', atI_nat (j := 0) rfl, p, _, rfl, DPut.k (k := Sum.inl (r.i : Int)) hd ?_, ?_⟩
        · rw [trueK, List.length_map]; exact fitslt_of (by omega)
        rw [trueK_put]
        have hd2 : upd H' p (.dK (trueK (addN ks r.i))) p = some (.dK (trueK (addN ks r.i))) := upd_same
        have ht3 : upd H' p (.dK (trueK (addN ks r.i))) t2 = some (.tup ([r.i, r.j].map iv)) := by rw [upd_ne (ne_of ht2' hd (by intro z; cases z))]; exact ht2'
        have nd1 := addN_nodup hnd r.i
        have kl1 := nodup_short nd1 (c := as_.length + rs.length) (fun x hx => by
          rcases mem_addN.mp hx with hx | hx
          · exact hlt x ((hmem x).mp hx)
          · omega)
        refine ⟨_, rfl, _, rfl, t2, _, 1, _, rfl, rfl, SqT.of ht3, atI_nat (j := 1) rfl, p, _, rfl, DPut.k (k := Sum.inl (r.j : Int)) hd2 ?_, ?_⟩
        · rw [trueK, List.length_map]; exact fitslt_of (by omega)
        rw [trueK_put, upd_upd]
        refine ⟨addN (addN ks r.i) r.j, l ++ [r.i, r.j], _, _, rfl, fun b o z => by rw [upd_ne (ne_of_none z np)]; exact s5 b o z, upd_same, addN_nodup nd1 r.j, fun x => ?_, fun x hx => ?_, by rw [enj]; exact hnb⟩
        · rw [mem_addN, mem_addN, hmem]
          simp only [List.mem_append, List.mem_cons, List.not_mem_nil, or_false]
          constructor
          · rintro ((h | h) | h)
            · exact .inl h
            · exact .inr (.inl h)
            · exact .inr (.inr h)
          · rintro (h | h | h)
            · exact .inl (.inl h)
            · exact .inl (.inr h)
            · exact .inr h
        · rcases List.mem_append.mp hx with hx | hx
          · exact hlt x hx
          · simp only [List.mem_cons, List.not_mem_nil, or_false] at hx
            rcases hx with hx | hx <;> omega
    · rintro σ H' ⟨ks, l, v3, v4, rfl, s5, hd, hnd, hmem, hlt, hnb⟩
      rw [Nat.sub_self] at hnb
      have hnb : Vapcma.needsBy ⟨as_, rs, gs⟩ rs.length [k] = l := hnb
      have kl := nodup_short hnd (fun x hx => hlt x ((hmem x).mp hx))
      refine ⟨_, rfl, p, trueK ks, ks.map fun (k : Nat) => (k : Int), rfl, .inl hd, ?_, ?_, fun ys q1 hperm hsort nq1 => ?_⟩
      · unfold trueK
        rw [List.map_map, List.map_map]
        rfl
      · rw [List.length_map]; omega
      have eys : ys = (Vapcma.needs ⟨as_, rs, gs⟩ k).map fun (k : Nat) => (k : Int) := by
        rw [sorted_is hperm hsort hnd hmem hlt]
        show _ = ((List.range (as_.length + rs.length)).filter fun z => (Vapcma.needsBy ⟨as_, rs, gs⟩ rs.length [k]).contains z).map _
        rw [hnb]
      subst eys
      have nlen : (Vapcma.needs ⟨as_, rs, gs⟩ k).length ≤ 40 := by
        have := hperm.length_eq
        rw [List.length_map, List.length_map] at this
        omega
      have sq : Same H (upd H' q1 (.lst (((Vapcma.needs ⟨as_, rs, gs⟩ k).map fun (k : Nat) => (k : Int)).map V.int))) := s5.trans (same_new nq1)
      refine q nlen _ q1 sq (s5.free nq1) ?_
      rw [upd_same, List.map_map]
      rfl
end
end Dr

namespace Dr
open PySem PySem.Spec PyProof.Rows L2
open Vapcma (Form Axiom Text_)
open VapcmBase (Bytes Answer)
section
variable {P : Program} {w : World} {K : PySem.W.Frag} {mg : Str → Option Value} {base : Heap} {L : Lay}
abbrev sp_sizes (L : Lay) : Sp := sp_item L fun t n => Vapcma.looked t (.sizes n)
abbrev s_sizes : Stmt := top 77
theorem sc_sizes : FnScope ["held", "item", "rows", "number"] ["held", "item"] (defScope s_sizes) := ⟨rfl, rfl, rfl, by decide +kernel, rfl, by decide +kernel, by decide +kernel⟩
theorem ok_sizes {f : Addr} {fd : FuncData} (F : Fun K "sizes" "sizes" s_sizes f fd) (T : Txt K mg L) (h_has_number : HasDef P w K mg base CX0 1 "has_number" ["numbered", "number"] (sp_has_number K))
    (h_axiom_count : HasMeth P w K mg base CX0 1 L.Held "axiom_count" ["self"] (sp_axiom_count L))
    (h_tree_sizes : HasDef P w K mg base CX0 2 "tree_sizes" ["held", "item"] (sp_tree_sizes L)) (h_items_hung_on : HasDef P w K mg base CX0 2 "items_hung_on" ["held", "item"] (sp_items_hung_on L)) :
    FnOk P w K mg base CX0 3 f fd ["held", "item"] (sp_sizes L) := by
  refine F.ok sc_sizes (fun vs H Q E h => ?_) (fun cdv A outer s H vs Q E hr h => ?_)
  · obtain ⟨h, as_, rs, gs, n, rfl, _⟩ := h
    rfl
  · have n_len := T.n_len
    obtain ⟨f_has_number, fd_has_number, m_has_number, k_has_number, b_has_number, G_has_number⟩ := h_has_number
    obtain ⟨f_tree_sizes, fd_tree_sizes, m_tree_sizes, k_tree_sizes, b_tree_sizes, G_tree_sizes⟩ := h_tree_sizes
    obtain ⟨f_items_hung_on, fd_items_hung_on, m_items_hung_on, k_items_hung_on, b_items_hung_on, G_items_hung_on⟩ := h_items_hung_on
    obtain ⟨f_ac, fd_ac, M_Held_axiom_count, b_Held_axiom_count, G_Held_axiom_count⟩ := h_axiom_count
    refine ⟨_, pss_cons (ps_if (pt_not (pt_val (pe_call G_has_number (hr.mono (by decide)) rfl m_has_number k_has_number b_has_number .nil pass0 (pa_cons (pe_fld (pv 0) rfl) (pa_cons (pv 1) pa_nil)))))
        (pss_one (ps_ret (pe_lst (pa_cons (pe_un un_neg pe_int) pa_nil))))
        (pss_nil))
      (pss_cons (ps_setLc (i := 2) (own := [("number", 3)]) (g := gName 3) rfl sc_sizes.nd rfl rfl (sw_true rfl rfl rfl rfl) (pi_list (pe_call G_items_hung_on (hr.mono (by decide)) rfl m_items_hung_on k_items_hung_on b_items_hung_on .nil pass0 (pa_cons (pv 0) (pa_cons (pv 1) pa_nil)))) (blkOk_by (own := [("number", 3)]) (N := ["held", "item", "rows", "number"]) (sc := defScope s_sizes) (by decide +kernel)) (fun _ _ _ _ _ => pg_name (i := 3) sc_sizes.nd rfl (Or.inl rfl))
        (fun _ _ _ _ _ => pts_one (pt_cmpR op_ge (pv 3) (pe_meth0 (pv 0) T.cHeld M_Held_axiom_count G_Held_axiom_count (hr.mono (by decide)) b_Held_axiom_count .nil pass0) (nomark _))) (fun _ _ _ _ _ => pv 3))
      (pss_one (ps_ret (pe_op op_cat (pe_call G_tree_sizes (hr.mono (by decide)) rfl m_tree_sizes k_tree_sizes b_tree_sizes .nil pass0 (pa_cons (pv 0) (pa_cons (pv 1) pa_nil))) (pe_lst (pa_cons (pe_callB call_len_seq (by rfl) n_len PySem.boot_len (pa_cons (pv 2) pa_nil)) pa_nil)))))), ?_⟩
    obtain ⟨h, as_, rs, gs, n, rfl, hH, hR, k⟩ := h
    obtain ⟨vs, f1, f2, f3⟩ := hH.fs
    have hna := hR.na
    have hnr := hR.nr
    have e1 : vs.length = as_.length + rs.length := by rw [f2.length, formsOf_length]
    have lkA : (heldF h.na h.fa h.ra h.ga).lookup ("axiom_count" : Str) = none := held_none _ _ _ _ (by decide +kernel) (by decide +kernel) (by decide +kernel) (by decide +kernel)
    have k : Answers H Q (Vapcma.withItem ⟨as_, rs, gs⟩ n fun k => let s := (Vapcma.treeSizes ⟨as_, rs, gs⟩).getD k (0, 0); ⟨(s.1 : Int), Vapcma.nats [s.2, ((Vapcma.needs ⟨as_, rs, gs⟩ k).filter fun m => decide (as_.length ≤ m)).length]⟩) := k
    refine ⟨_, rfl, h.a, _, _, _, _, rfl, hH.obj, T.cHeld, T.nHeld_formulas, held_formulas _ _ _ _, _, rfl, h.fa, _, n, rfl, SqL.of f1, _, rfl, ?_⟩
    rw [e1]
    by_cases c : 0 ≤ n ∧ n < ((as_.length + rs.length : Nat) : Int)
    · refine iteF' (by rw [decide_eq_true c]; rfl) ?_
      obtain ⟨j, rfl, hj, hix⟩ := index_some c
      rw [item_some (t := ⟨as_, rs, gs⟩) hix] at k
      refine ⟨_, rfl, _, rfl, h, as_, rs, gs, j, rfl, hH, hR, hj, fun nlen H1 q1 s1 nq1 hq1 => ?_⟩
      refine ⟨q1, rfl, ⟨_, SqL.of hq1⟩, fun D nD => ?_⟩
      have nqD : q1 ≠ D := ne_of_none hq1 nD
      have fD : H D = none := s1.free nD
      refine lc_list (K := K) (a := q1) (xs := (Vapcma.needs ⟨as_, rs, gs⟩ j).map iv)
        (fun i H2 => Same H H2 ∧ H2 q1 = some (.lst ((Vapcma.needs ⟨as_, rs, gs⟩ j).map iv)) ∧ H2 D = some (.lst ((((Vapcma.needs ⟨as_, rs, gs⟩ j).take i).filter fun m => decide (as_.length ≤ m)).map iv)))
        ⟨s1.trans (same_new nD), by rw [upd_ne nqD]; exact hq1, upd_same⟩ (fun i H2 _ ⟨_, h2, _⟩ => SqL.of h2) ?_ ?_
      · rintro i x H2 hx ⟨s2, hq2, hD2⟩
        obtain ⟨z, hz, rfl⟩ := get_map hx
        have hH2 := hH.same s2
        refine ⟨rfl, _, rfl, _, rfl, h.a, _, _, rfl, hH2.obj, lkA, h, as_, rs, gs, rfl, hH2, _, _, rfl, rfl, _, rfl, ?_⟩
        have fl : ((Vapcma.needs ⟨as_, rs, gs⟩ j).take i).length ≤ 40 := by rw [List.length_take]; omega
        have fl2 := List.length_filter_le (fun m => decide (as_.length ≤ m)) ((Vapcma.needs ⟨as_, rs, gs⟩ j).take i)
        by_cases c : as_.length ≤ z
        · refine iteT' (decide_eq_true (by show (as_.length : Int) ≤ (z : Int); omega)) ?_
          refine ⟨_, rfl, _, hD2, by rw [List.length_map]; exact fitslt_of (by omega), fun b o e => ?_, ?_, ?_⟩
          · rw [upd_ne (ne_of_none e fD)]; exact s2 b o e
          · rw [upd_ne nqD]; exact hq2
          · rw [upd_same, take_succ' hz, List.filter_append, List.filter_cons, if_pos (decide_eq_true c), List.map_append]
            rfl
        · refine iteF' (decide_eq_false (by show ¬ (as_.length : Int) ≤ (z : Int); omega)) ?_
          refine ⟨s2, hq2, ?_⟩
          rw [hD2, take_succ' hz, List.filter_append, List.filter_cons, if_neg (by simpa using c)]
          simp
      · rintro H2 ⟨s2, hq2, hD2⟩
        rw [List.length_map, List.take_length] at hD2
        refine ⟨_, rfl, _, rfl, h, as_, rs, gs, j, rfl, hH.same s2, hR.row, by omega, by omega, hj, fun H3 p1 s3 np1 hp1 => ?_⟩
        have s13 := s2.trans s3
        refine ⟨_, rfl, D, _, rfl, .inl (SqL.of (s3 _ _ hD2)), (by show 1 ≤ sizeLine; decide), fun p3 np3 => ?_⟩
        have hp13 := same_new (o := .lst [V.int ((((Vapcma.needs ⟨as_, rs, gs⟩ j).filter fun m => decide (as_.length ≤ m)).map iv).length : Int)]) np3 _ _ hp1
        refine ⟨p1, p3, _, _, rfl, rfl, hp13, upd_same, (by show 2 + 1 ≤ sizeLine; decide), fun r nr => ?_⟩
        have sr := (s13.trans (same_new (o := .lst [V.int ((((Vapcma.needs ⟨as_, rs, gs⟩ j).filter fun m => decide (as_.length ≤ m)).map iv).length : Int)]) np3)).trans (same_new (o := .lst ([iv ((sizesOf as_ rs).getD j (0, 0)).1, iv ((sizesOf as_ rs).getD j (0, 0)).2] ++ [V.int ((((Vapcma.needs ⟨as_, rs, gs⟩ j).filter fun m => decide (as_.length ≤ m)).map iv).length : Int)])) nr)
        refine k _ r sr ((s13.trans (same_new np3)).free nr) ?_
        rw [upd_same, List.length_map]
        rfl
    · refine iteT' (by rw [decide_eq_false c]; rfl) ?_
      rw [item_none (t := ⟨as_, rs, gs⟩) (index_none c)] at k
      refine ⟨_, rfl, (by show 1 ≤ sizeLine; decide), fun p np => ?_⟩
      exact one_out (z := -2) k np
end
end Dr

namespace Dr
open PySem PySem.Spec PyProof.Rows L2
open Vapcma (Form Axiom Text_)
open VapcmBase (Bytes Answer)
/-! ## what the desk answers, call by call -/
theorem step_none {p : Int} {xs : List Int} {c : List (List Int)} (h : CallArgs p xs c) (hp : p ≠ 0) : VapcmaNeutral.step Option.none c = (Option.none, [-1]) := by
  cases h with
  | load h b => exact absurd rfl hp
  | none _ h => rcases h with rfl | rfl <;> rfl
  | one _ x h => rcases h with rfl | rfl | rfl <;> rfl
  | two _ x y h => rcases h with rfl | rfl | rfl <;> rfl
section
variable (t : Text_) (x y : Int)
theorem step_shown : VapcmaNeutral.step (some t) [[1]] = (some t, VapcmaNeutral.encode (Vapcma.looked t .shown)) := rfl
theorem step_formula : VapcmaNeutral.step (some t) [[2, x]] = (some t, VapcmaNeutral.encode (Vapcma.looked t (.formula x))) := rfl
theorem step_sizes : VapcmaNeutral.step (some t) [[3, x]] = (some t, VapcmaNeutral.encode (Vapcma.looked t (.sizes x))) := rfl
theorem step_proves : VapcmaNeutral.step (some t) [[4, x, y]] = (some t, VapcmaNeutral.encode (Vapcma.looked t (.proves x y))) := rfl
theorem step_detach : VapcmaNeutral.step (some t) [[5, x, y]] = (some t, VapcmaNeutral.encode (Vapcma.looked t (.detach x y))) := rfl
theorem step_compare : VapcmaNeutral.step (some t) [[6, x, y]] = (some t, VapcmaNeutral.encode (Vapcma.looked t (.compare x y))) := rfl
theorem step_needs : VapcmaNeutral.step (some t) [[7, x]] = (some t, VapcmaNeutral.encode (Vapcma.looked t (.needs x))) := rfl
theorem step_goals : VapcmaNeutral.step (some t) [[8]] = (some t, VapcmaNeutral.encode (Vapcma.looked t .goals)) := rfl
end
/-- a call that looks only: the desk stays as it is -/
theorem looks_out {L : Lay} {B : Addr → Prop} {H : Hp} {Q : VK} {g : KAd} {t : Text_} {c : List (List Int)} {a : Answer} (hD : DeskAt B H L g (some t)) (es : VapcmaNeutral.step (some t) c = (some t, VapcmaNeutral.encode a))
    (k : ∀ H' r, DeskAt B H' L g (VapcmaNeutral.step (some t) c).1 → Fr (fun b => b = g.a) H H' → H r = Option.none → H' r = some (.lst (intV (VapcmaNeutral.step (some t) c).2)) → Q (.ref r) H') : Answers H Q a := fun H' r s n h => by
  rw [es] at k
  exact k H' r (hD.same s) (Fr.of s) n h
/-- a formula asked for by a number -/
theorem formula_some {t : Text_} {n : Int} {k : Nat} {f : Form → Answer} {o : Option Form} (h : VapcmBase.index n (Vapcma.count t) = some k) (ho : Vapcma.formulaAt t k = o) : Vapcma.withFormula t n f = o.elim (VapcmBase.one (-5)) f := by
  subst ho
  unfold Vapcma.withFormula
  rw [item_some h]
  cases Vapcma.formulaAt t k <;> rfl
theorem formula_none {t : Text_} {n : Int} {f : Form → Answer} (h : VapcmBase.index n (Vapcma.count t) = none) : Vapcma.withFormula t n f = VapcmBase.one (-2) := by
  unfold Vapcma.withFormula
  rw [item_none h]
/-- the first number below that does it -/
theorem first_is' {p : Nat → Bool} {c i : Nat} (hi : i < c) (hp : p i = true) (hn : ∀ j, j < i → p j = false) : (List.range c).find? p = some i := by
  rw [List.find?_eq_some_iff_getElem]
  refine ⟨hp, i, by rw [List.length_range]; exact hi, by simp, fun j hj => ?_⟩
  rw [List.getElem_range, hn j hj]
  rfl
theorem first_none {p : Nat → Bool} {c : Nat} (hn : ∀ j, j < c → p j = false) : (List.range c).find? p = none := by
  rw [List.find?_eq_none]
  intro j hj
  rw [hn j (List.mem_range.mp hj)]
  decide
end Dr

namespace Dr
open PySem PySem.Spec PyProof.Rows L2
open Vapcma (Form Axiom Text_)
open VapcmBase (Bytes Answer)
section
variable {P : Program} {w : World} {K : PySem.W.Frag} {mg : Str → Option Value} {base : Heap} {L : Lay}
/-- an item's formula, as it lies -/
theorem HeldAt.at {H : Hp} {h : HAd} {as_ : List Axiom} {rs : List Vapcma.Row} {gs : List Form} (hH : HeldAt H L h as_ rs gs) (hR : Right as_ rs gs) {j : Nat} {x : Form} (hj : j < Vapcma.count ⟨as_, rs, gs⟩) (hx : Vapcma.formulaAt ⟨as_, rs, gs⟩ j = some x) :
    ∃ (vs : List V) (b : Addr), H h.fa = some (.lst vs) ∧ vs[j]? = some (.ref b) ∧ H b = some (.lst (encV x)) ∧ Vapcma.normal x = x ∧ Vapcma.size x ≤ 60 := by
  have hj : j < as_.length + rs.length := hj
  obtain ⟨vs, f1, f2, f3⟩ := hH.fs
  obtain ⟨o, ho⟩ : ∃ o, (formsOf as_ rs)[j]? = some o := ⟨_, List.getElem?_eq_getElem (by rw [formsOf_length]; exact hj)⟩
  obtain rfl : o = some x := by
    have : ((formsOf as_ rs)[j]?).getD none = some x := hx
    rw [ho] at this; exact this
  obtain ⟨v, hv, hI⟩ := f2.get ho
  obtain ⟨b, rfl, hb⟩ := hI
  have sm := formsOf_small rs hR.ax x (List.mem_of_getElem? ho)
  exact ⟨vs, b, f1, hv, hb, sm.1, sm.2⟩
def sp_item2 (L : Lay) (fn : Text_ → Int → Int → Answer) : Sp := fun vs H Q _ => ∃ (h : HAd) (as_ : List Axiom) (rs : List Vapcma.Row) (gs : List Form) (n m : Int), vs = [.ref h.a, .int n, .int m] ∧ HeldAt H L h as_ rs gs ∧ Right as_ rs gs ∧ Answers H Q (fn ⟨as_, rs, gs⟩ n m)
abbrev sp_detach (L : Lay) : Sp := sp_item2 L fun t n m => Vapcma.looked t (.detach n m)
abbrev s_detach : Stmt := top 80
theorem sc_detach : FnScope ["held", "first", "second", "refusal", "rest"] ["held", "first", "second"] (defScope s_detach) := ⟨rfl, rfl, rfl, by decide +kernel, rfl, by decide +kernel, by decide +kernel⟩
theorem ok_detach {f : Addr} {fd : FuncData} (F : Fun K "detach" "detach" s_detach f fd) (T : Txt K mg L) (h_refused : HasDef P w K mg base CX0 2 "refused" ["held", "items"] (sp_refused L)) (h_detached : HasDef P w K mg base CX0 3 "detached" ["first", "second"] sp_detached)
    (h_told : HasDef P w K mg base CX0 1 "told" ["formula"] (sp_told K)) :
    FnOk P w K mg base CX0 4 f fd ["held", "first", "second"] (sp_detach L) := by
  refine F.ok sc_detach (fun vs H Q E h => ?_) (fun cdv A outer s H vs Q E hr h => ?_)
  · obtain ⟨h, as_, rs, gs, n, m, rfl, _⟩ := h
    rfl
  · obtain ⟨f_refused, fd_refused, m_refused, k_refused, b_refused, G_refused⟩ := h_refused
    obtain ⟨f_detached, fd_detached, m_detached, k_detached, b_detached, G_detached⟩ := h_detached
    obtain ⟨f_told, fd_told, m_told, k_told, b_told, G_told⟩ := h_told
    refine ⟨_, pss_cons (ps_set (i := 3) sc_detach.nd rfl (Or.inl rfl) (pe_call G_refused (hr.mono (by decide)) rfl m_refused k_refused b_refused .nil pass0 (pa_cons (pv 0) (pa_cons (pe_lst (pa_cons (pv 1) (pa_cons (pv 2) pa_nil))) pa_nil))))
      (pss_cons (ps_if (pt_truth (pv 3) (by intro _; rfl))
        (pss_one (ps_ret (pv 3)))
        (pss_nil))
      (pss_cons (ps_set (i := 4) sc_detach.nd rfl (Or.inl rfl) (pe_call G_detached (hr.mono (by decide)) rfl m_detached k_detached b_detached .nil pass0 (pa_cons (pe_ix ix_list (pe_fld (pv 0) rfl) (pv 1) (fun _ _ => rfl)) (pa_cons (pe_ix ix_list (pe_fld (pv 0) rfl) (pv 2) (fun _ _ => rfl)) pa_nil))))
      (pss_one (ps_ret (pe_ifExp (pt_cmpR op_isN (pv 4) pe_non (nomark _)) (pe_lst (pa_cons pe_int pa_nil)) (pe_call G_told (hr.mono (by decide)) rfl m_told k_told b_told .nil pass0 (pa_cons (pv 4) pa_nil))))))), ?_⟩
    obtain ⟨h, as_, rs, gs, n, m, rfl, hH, hR, k⟩ := h
    have k : Answers H Q (Vapcma.withFormula ⟨as_, rs, gs⟩ n fun f => Vapcma.withFormula ⟨as_, rs, gs⟩ m fun g => match Vapcma.detach f g with | none => VapcmBase.one 0 | some h => Vapcma.formAnswer h) := k
    refine ⟨_, rfl, _, rfl, _, rfl, (by show 2 ≤ sizeLine; decide), fun q nq => ?_⟩
    have sq : Same H (upd H q (.lst [V.int n, V.int m])) := same_new nq
    refine ⟨h, as_, rs, gs, q, [n, m], rfl, hH.same sq, upd_same, fun H1 p s1 np hp => ?_⟩
    have s2 := sq.trans s1
    refine ⟨_, rfl, _, .inl ⟨_, SqL.of hp, rfl⟩, ?_⟩
    rcases refusal_cases ⟨as_, rs, gs⟩ n [m] with ⟨z, er, ef⟩ | ⟨i, x, rfl, hi, hx, er, ef⟩
    · rw [er] at hp ⊢
      rw [ef] at k
      refine iteT' rfl ?_
      exact ⟨_, rfl, k H1 p s2 (sq.free np) hp⟩
    rw [ef] at k
    rcases refusal_cases ⟨as_, rs, gs⟩ m [] with ⟨z, er2, ef2⟩ | ⟨j, y, rfl, hj, hy, er2, ef2⟩
    · rw [er, er2] at hp ⊢
      rw [ef2] at k
      refine iteT' rfl ?_
      exact ⟨_, rfl, k H1 p s2 (sq.free np) hp⟩
    · rw [er, er2] at hp ⊢
      rw [ef2] at k
      refine iteF' rfl ?_
      have hH1 := hH.same s2
      obtain ⟨vs, b, f1, hv, hb, nx, sx⟩ := hH1.at hR hi hx
      obtain ⟨vs', c, f1', hv', hc, ny, sy⟩ := hH1.at hR hj hy
      rw [f1] at f1'; cases f1'
      refine ⟨_, rfl, h.a, _, _, _, _, rfl, hH1.obj, T.cHeld, T.nHeld_formulas, held_formulas _ _ _ _, _, rfl, h.fa, _, _, _, rfl, rfl, SqL.of f1, atI_nat hv, ?_⟩
      refine ⟨_, rfl, h.a, _, _, _, _, rfl, hH1.obj, T.cHeld, T.nHeld_formulas, held_formulas _ _ _ _, _, rfl, h.fa, _, _, _, rfl, rfl, SqL.of f1, atI_nat hv', ?_⟩
      have ed : detachO (some x) (some y) = Vapcma.detach x y := rfl
      refine ⟨.ref b, .ref c, some x, some y, rfl, ⟨b, rfl, hb⟩, ⟨c, rfl, hc⟩, fun f e => by cases e; omega, fun f e => by cases e; omega, fun hn H2 s3 => ?_, fun r hr2 H2 p2 s3 np2 hp2 => ?_⟩
      · rw [← ed, hn] at k
        refine ⟨_, rfl, rfl, _, rfl, ?_⟩
        refine iteT' (by decide) ?_
        refine ⟨(by show 1 ≤ sizeLine; decide), fun p3 np3 => ?_⟩
        exact one_out (z := 0) (k.mono (s2.trans s3)) np3
      · rw [← ed, hr2] at k
        have sm : Vapcma.size r ≤ 60 := (detach_small (f := x) (g := y) trivial hr2).2
        refine ⟨_, rfl, rfl, _, rfl, ?_⟩
        refine iteF' (by simp) ?_
        refine ⟨_, rfl, p2, r, rfl, SqL.of hp2, by omega, fun H' p s' np' hp' => ?_⟩
        have s23 := s2.trans s3
        exact k H' p (s23.trans s') (s23.free np') hp'
abbrev sp_compare (L : Lay) : Sp := sp_item2 L fun t n m => Vapcma.looked t (.compare n m)
abbrev s_compare : Stmt := top 81
theorem sc_compare : FnScope ["held", "first", "second", "refusal", "one", "other"] ["held", "first", "second"] (defScope s_compare) := ⟨rfl, rfl, rfl, by decide +kernel, rfl, by decide +kernel, by decide +kernel⟩
theorem ok_compare {f : Addr} {fd : FuncData} (F : Fun K "compare" "compare" s_compare f fd) (T : Txt K mg L) (h_refused : HasDef P w K mg base CX0 2 "refused" ["held", "items"] (sp_refused L)) (h_is_instance : HasDef P w K mg base CX0 3 "is_instance" ["formula", "pattern"] (sp_is_instance K)) :
    FnOk P w K mg base CX0 4 f fd ["held", "first", "second"] (sp_compare L) := by
  refine F.ok sc_compare (fun vs H Q E h => ?_) (fun cdv A outer s H vs Q E hr h => ?_)
  · obtain ⟨h, as_, rs, gs, n, m, rfl, _⟩ := h
    rfl
  · obtain ⟨f_refused, fd_refused, m_refused, k_refused, b_refused, G_refused⟩ := h_refused
    obtain ⟨f_is_instance, fd_is_instance, m_is_instance, k_is_instance, b_is_instance, G_is_instance⟩ := h_is_instance
    refine ⟨_, pss_cons (ps_set (i := 3) sc_compare.nd rfl (Or.inl rfl) (pe_call G_refused (hr.mono (by decide)) rfl m_refused k_refused b_refused .nil pass0 (pa_cons (pv 0) (pa_cons (pe_lst (pa_cons (pv 1) (pa_cons (pv 2) pa_nil))) pa_nil))))
      (pss_cons (ps_if (pt_truth (pv 3) (by intro _; rfl))
        (pss_one (ps_ret (pv 3)))
        (pss_nil))
      (pss_cons (ps_set (i := 4) sc_compare.nd rfl (Or.inl rfl) (pe_ix ix_list (pe_fld (pv 0) rfl) (pv 1) (fun _ _ => rfl)))
      (pss_cons (ps_set (i := 5) sc_compare.nd rfl (Or.inl rfl) (pe_ix ix_list (pe_fld (pv 0) rfl) (pv 2) (fun _ _ => rfl)))
      (pss_cons (ps_if (pt_cmpR (op_eqD hr.units) (pv 4) (pv 5) (nomark _))
        (pss_one (ps_ret (pe_lst (pa_cons pe_int pa_nil))))
        (pss_nil))
      (pss_cons (ps_if (pt_val (pe_call G_is_instance (hr.mono (by decide)) rfl m_is_instance k_is_instance b_is_instance .nil pass0 (pa_cons (pv 4) (pa_cons (pv 5) pa_nil))))
        (pss_one (ps_ret (pe_lst (pa_cons pe_int pa_nil))))
        (pss_nil))
      (pss_one (ps_ret (pe_ifExp (pt_val (pe_call G_is_instance (hr.mono (by decide)) rfl m_is_instance k_is_instance b_is_instance .nil pass0 (pa_cons (pv 5) (pa_cons (pv 4) pa_nil)))) (pe_lst (pa_cons pe_int pa_nil)) (pe_lst (pa_cons pe_int pa_nil)))))))))), ?_⟩
    obtain ⟨h, as_, rs, gs, n, m, rfl, hH, hR, k⟩ := h
    have k : Answers H Q (Vapcma.withFormula ⟨as_, rs, gs⟩ n fun f => Vapcma.withFormula ⟨as_, rs, gs⟩ m fun g => VapcmBase.one (if Vapcma.instanceOf g f = true then (if Vapcma.instanceOf f g = true then 3 else 1) else if Vapcma.instanceOf f g = true then 2 else 0)) := k
    refine ⟨_, rfl, _, rfl, _, rfl, (by show 2 ≤ sizeLine; decide), fun q nq => ?_⟩
    have sq : Same H (upd H q (.lst [V.int n, V.int m])) := same_new nq
    refine ⟨h, as_, rs, gs, q, [n, m], rfl, hH.same sq, upd_same, fun H1 p s1 np hp => ?_⟩
    have s2 := sq.trans s1
    refine ⟨_, rfl, _, .inl ⟨_, SqL.of hp, rfl⟩, ?_⟩
    rcases refusal_cases ⟨as_, rs, gs⟩ n [m] with ⟨z, er, ef⟩ | ⟨i, x, rfl, hi, hx, er, ef⟩
    · rw [er] at hp ⊢
      rw [ef] at k
      refine iteT' rfl ?_
      exact ⟨_, rfl, k H1 p s2 (sq.free np) hp⟩
    rw [ef] at k
    rcases refusal_cases ⟨as_, rs, gs⟩ m [] with ⟨z, er2, ef2⟩ | ⟨j, y, rfl, hj, hy, er2, ef2⟩
    · rw [er, er2] at hp ⊢
      rw [ef2] at k
      refine iteT' rfl ?_
      exact ⟨_, rfl, k H1 p s2 (sq.free np) hp⟩
    · rw [er, er2] at hp ⊢
      rw [ef2] at k
      refine iteF' rfl ?_
      have hH1 := hH.same s2
      obtain ⟨vs, b, f1, hv, hb, nx, sx⟩ := hH1.at hR hi hx
      obtain ⟨vs', c, f1', hv', hc, ny, sy⟩ := hH1.at hR hj hy
      rw [f1] at f1'; cases f1'
      refine ⟨_, rfl, h.a, _, _, _, _, rfl, hH1.obj, T.cHeld, T.nHeld_formulas, held_formulas _ _ _ _, _, rfl, h.fa, _, _, _, rfl, rfl, SqL.of f1, atI_nat hv, ?_⟩
      refine ⟨_, rfl, h.a, _, _, _, _, rfl, hH1.obj, T.cHeld, T.nHeld_formulas, held_formulas _ _ _ _, _, rfl, h.fa, _, _, _, rfl, rfl, SqL.of f1, atI_nat hv', ?_⟩
      have k := k.mono s2
      refine ⟨_, rfl, _, rfl, pd (enc x), pd (enc y), dp_pd (SqL.of hb), dp_pd (SqL.of hc), shaped_pd _, shaped_pd _, _, rfl, ?_⟩
      rw [eqv_pd]
      by_cases exy : x = y
      · subst exy
        rw [if_pos (inst_self x), if_pos (inst_self x)] at k
        refine iteT' (decide_eq_true rfl) ?_
        refine ⟨(by show 1 ≤ sizeLine; decide), fun p3 np3 => ?_⟩
        exact one_out (z := 3) k np3
      · refine iteF' (decide_eq_false fun e => exy (enc_inj e)) ?_
        refine ⟨_, rfl, _, rfl, b, c, x, y, rfl, SqL.of hb, SqL.of hc, by omega, fun H2 s3 => ?_⟩
        refine ⟨_, rfl, ?_⟩
        have k := k.mono s3
        cases e1 : Vapcma.instanceOf y x with
        | true =>
          have e2 : Vapcma.instanceOf x y = false := by
            cases e2 : Vapcma.instanceOf x y with
            | false => rfl
            | true => exact absurd (inst_both nx ny e2 e1) exy
          rw [e1, if_pos rfl, e2, if_neg (by decide)] at k
          refine iteT' rfl ?_
          refine ⟨(by show 1 ≤ sizeLine; decide), fun p3 np3 => ?_⟩
          exact one_out (z := 1) k np3
        | false =>
          rw [e1, if_neg (by decide)] at k
          refine iteF' rfl ?_
          refine ⟨_, rfl, _, rfl, c, b, y, x, rfl, SqL.of (s3 _ _ hc), SqL.of (s3 _ _ hb), by omega, fun H3 s4 => ?_⟩
          refine ⟨_, rfl, ?_⟩
          have k := k.mono s4
          refine ite2 (fun c => ?_) (fun c => ?_)
          · rw [if_pos c] at k
            refine ⟨(by show 1 ≤ sizeLine; decide), fun p3 np3 => ?_⟩
            exact one_out (z := 2) k np3
          · rw [if_neg c] at k
            refine ⟨(by show 1 ≤ sizeLine; decide), fun p3 np3 => ?_⟩
            exact one_out (z := 0) k np3
abbrev sp_needs (L : Lay) : Sp := sp_item L fun t n => Vapcma.looked t (.needs n)
abbrev s_needs : Stmt := top 82
theorem sc_needs : FnScope ["held", "item", "hung"] ["held", "item"] (defScope s_needs) := ⟨rfl, rfl, rfl, by decide +kernel, rfl, by decide +kernel, by decide +kernel⟩
theorem ok_needs {f : Addr} {fd : FuncData} (F : Fun K "needs" "needs" s_needs f fd) (T : Txt K mg L) (h_has_number : HasDef P w K mg base CX0 1 "has_number" ["numbered", "number"] (sp_has_number K))
    (h_items_hung_on : HasDef P w K mg base CX0 2 "items_hung_on" ["held", "item"] (sp_items_hung_on L)) :
    FnOk P w K mg base CX0 3 f fd ["held", "item"] (sp_needs L) := by
  refine F.ok sc_needs (fun vs H Q E h => ?_) (fun cdv A outer s H vs Q E hr h => ?_)
  · obtain ⟨h, as_, rs, gs, n, rfl, _⟩ := h
    rfl
  · have n_len := T.n_len
    obtain ⟨f_has_number, fd_has_number, m_has_number, k_has_number, b_has_number, G_has_number⟩ := h_has_number
    obtain ⟨f_items_hung_on, fd_items_hung_on, m_items_hung_on, k_items_hung_on, b_items_hung_on, G_items_hung_on⟩ := h_items_hung_on
    refine ⟨_, pss_cons (ps_if (pt_not (pt_val (pe_call G_has_number (hr.mono (by decide)) rfl m_has_number k_has_number b_has_number .nil pass0 (pa_cons (pe_fld (pv 0) rfl) (pa_cons (pv 1) pa_nil)))))
        (pss_one (ps_ret (pe_lst (pa_cons (pe_un un_neg pe_int) pa_nil))))
        (pss_nil))
      (pss_cons (ps_set (i := 2) sc_needs.nd rfl (Or.inl rfl) (pe_call G_items_hung_on (hr.mono (by decide)) rfl m_items_hung_on k_items_hung_on b_items_hung_on .nil pass0 (pa_cons (pv 0) (pa_cons (pv 1) pa_nil))))
      (pss_one (ps_ret (pe_op op_cat (pe_lst (pa_cons (pe_callB call_len_seq (by rfl) n_len PySem.boot_len (pa_cons (pv 2) pa_nil)) pa_nil)) (pv 2))))), ?_⟩
    obtain ⟨h, as_, rs, gs, n, rfl, hH, hR, k⟩ := h
    obtain ⟨vs, f1, f2, f3⟩ := hH.fs
    have e1 : vs.length = as_.length + rs.length := by rw [f2.length, formsOf_length]
    have k : Answers H Q (Vapcma.withItem ⟨as_, rs, gs⟩ n fun k => ⟨((Vapcma.needs ⟨as_, rs, gs⟩ k).length : Int), Vapcma.nats (Vapcma.needs ⟨as_, rs, gs⟩ k)⟩) := k
    refine ⟨_, rfl, h.a, _, _, _, _, rfl, hH.obj, T.cHeld, T.nHeld_formulas, held_formulas _ _ _ _, _, rfl, h.fa, _, n, rfl, SqL.of f1, _, rfl, ?_⟩
    rw [e1]
    by_cases c : 0 ≤ n ∧ n < ((as_.length + rs.length : Nat) : Int)
    · refine iteF' (by rw [decide_eq_true c]; rfl) ?_
      obtain ⟨j, rfl, hj, hix⟩ := index_some c
      rw [item_some (t := ⟨as_, rs, gs⟩) hix] at k
      refine ⟨_, rfl, _, rfl, h, as_, rs, gs, j, rfl, hH, hR, hj, fun nlen H1 q1 s1 nq1 hq1 => ?_⟩
      refine ⟨_, rfl, q1, _, rfl, .inl (SqL.of hq1), (by show 1 ≤ sizeLine; decide), fun p np => ?_⟩
      have hq2 : upd H1 p (.lst [V.int (((Vapcma.needs ⟨as_, rs, gs⟩ j).map iv).length : Int)]) q1 = some (.lst ((Vapcma.needs ⟨as_, rs, gs⟩ j).map iv)) := same_new np _ _ hq1
      refine ⟨_, rfl, p, q1, _, _, rfl, rfl, upd_same, hq2, ?_, fun r nr => ?_⟩
      · rw [List.length_map, sizeLine_eq]
        simp only [List.length_cons, List.length_nil]
        omega
      have s2 := s1.trans (same_new (o := .lst [V.int (((Vapcma.needs ⟨as_, rs, gs⟩ j).map iv).length : Int)]) np)
      refine k _ r (s2.trans (same_new nr)) (s2.free nr) ?_
      rw [upd_same, List.length_map]
      show _ = some (HO.lst (((((Vapcma.needs ⟨as_, rs, gs⟩ j).length : Int)) :: Vapcma.nats (Vapcma.needs ⟨as_, rs, gs⟩ j)).map V.int))
      unfold Vapcma.nats
      rw [List.map_cons, List.map_map]
      rfl
    · refine iteT' (by rw [decide_eq_false c]; rfl) ?_
      rw [item_none (t := ⟨as_, rs, gs⟩) (index_none c)] at k
      refine ⟨_, rfl, (by show 1 ≤ sizeLine; decide), fun p np => ?_⟩
      exact one_out (z := -2) k np
end
end Dr

namespace Dr
open PySem PySem.Spec PyProof.Rows L2
open Vapcma (Form Axiom Text_)
open VapcmBase (Bytes Answer)
def firstOf (t : Text_) (g : Form) : Int := match (List.range (Vapcma.count t)).find? fun i => Vapcma.provesIn (Vapcma.formulas t) i g with
  | none => -1
  | some i => (i : Int)
section
variable {P : Program} {w : World} {K : PySem.W.Frag} {mg : Str → Option Value} {base : Heap} {L : Lay}
def sp_first_proof (K : PySem.W.Frag) (L : Lay) : Sp := fun vs H Q _ => ∃ (h : HAd) (as_ : List Axiom) (rs : List Vapcma.Row) (gs : List Form) (q : Addr) (g : Form), vs = [.ref h.a, .ref q] ∧ HeldAt H L h as_ rs gs ∧ Right as_ rs gs ∧ SqL K H q (encV g) ∧
  ∀ H', Same H H' → Q (.int (firstOf ⟨as_, rs, gs⟩ g)) H'
abbrev s_first_proof : Stmt := top 84
theorem sc_first_proof : FnScope ["held", "goal", "item", "general"] ["held", "goal"] (defScope s_first_proof) := ⟨rfl, rfl, rfl, by decide +kernel, rfl, by decide +kernel, by decide +kernel⟩
theorem ok_first_proof {f : Addr} {fd : FuncData} (F : Fun K "first_proof" "first_proof" s_first_proof f fd) (T : Txt K mg L) (h_is_proved : HasDef P w K mg base CX0 4 "is_proved" ["goal", "general"] (sp_is_proved K)) :
    FnOk P w K mg base CX0 5 f fd ["held", "goal"] (sp_first_proof K L) := by
  refine F.ok sc_first_proof (fun vs H Q E h => ?_) (fun cdv A outer s H vs Q E hr h => ?_)
  · obtain ⟨h, as_, rs, gs, q, g, rfl, _⟩ := h
    rfl
  · have n_enumerate := T.n_enumerate
    obtain ⟨f_is_proved, fd_is_proved, m_is_proved, k_is_proved, b_is_proved, G_is_proved⟩ := h_is_proved
    refine ⟨_, pss_cons (ps_for PassesOwn.never rfl (pi_enum (by rfl) n_enumerate (pa_cons (pe_fld (pv 0) rfl) pa_nil)) (pg_tup rfl (pgs_cons (pg_name (i := 2) sc_first_proof.nd rfl (Or.inl rfl)) (pgs_cons (pg_name (i := 3) sc_first_proof.nd rfl (Or.inl rfl)) pgs_nil)))
        (pss_one (ps_if (pt_val (pe_call G_is_proved (hr.mono (by decide)) rfl m_is_proved k_is_proved b_is_proved .nil pass0 (pa_cons (pv 1) (pa_cons (pv 3) pa_nil))))
            (pss_one (ps_ret (pv 2)))
            (pss_nil))))
      (pss_one (ps_ret (pe_un un_neg pe_int))), ?_⟩
    obtain ⟨h, as_, rs, gs, q, g, rfl, hH, hR, hq, k⟩ := h
    obtain ⟨vs, f1, f2, f3⟩ := hH.fs
    have e1 : vs.length = as_.length + rs.length := by rw [f2.length, formsOf_length]
    refine ⟨_, rfl, h.a, _, _, _, _, rfl, hH.obj, T.cHeld, T.nHeld_formulas, held_formulas _ _ _ _, h.fa, vs, rfl, SqL.of f1, for_it (walk_enum (K := K) (a := h.fa) (xs := vs))
      (fun i σ H' => ∃ (v2 v3 : Option V), σ = [some (.ref h.a), some (.ref q), v2, v3] ∧ Same H H' ∧ ∀ j, j < i → Vapcma.provesIn (formsOf as_ rs) j g = false)
      ⟨none, none, rfl, fun _ _ z => z, fun j hj => absurd hj (Nat.not_lt_zero j)⟩ (fun i σ H' _ ⟨_, _, _, s5, _⟩ => SqL.of (s5 _ _ f1)) ?_ ?_⟩
    · rintro i x σ H' H2 hi ⟨v2, v3, rfl, s5, hm⟩ ⟨t, x1, x2, rfl, nt, rfl, hx1, hx2⟩
      obtain rfl : V.int (i : Nat) = x1 := Option.some.inj hx1
      have hj : i < as_.length + rs.length := by omega
      obtain ⟨o, ho⟩ : ∃ o, (formsOf as_ rs)[i]? = some o := ⟨_, List.getElem?_eq_getElem (by rw [formsOf_length]; exact hj)⟩
      obtain ⟨v, hv, hI⟩ := f2.get ho
      have hx2 : vs[i]? = some x2 := hx2
      rw [hx2] at hv
      cases hv
      have st : Same H' (upd H' t (.tup [V.int (i : Nat), x2])) := same_new nt
      have s6 := s5.trans st
      have ep : Vapcma.provesIn (formsOf as_ rs) i g = o.any fun f => Vapcma.instanceOf f g := by
        show (((formsOf as_ rs)[i]?).getD none).any _ = _
        rw [ho]; rfl
      have hI2 : OptIs (upd H' t (.tup [V.int (i : Nat), x2])) x2 o := by
        cases o with
        | none => exact hI
        | some y => obtain ⟨b, e, hb⟩ := hI; exact ⟨b, e, s6 _ _ hb⟩
      refine ⟨t, _, rfl, SqT.of upd_same, rfl, _, _, rfl, _, _, rfl, rfl, ?_⟩
      refine ⟨_, rfl, _, rfl, q, x2, g, o, rfl, s6.seq hq, hI2, fun y hy => ?_, fun H3 s3 => ?_⟩
      · have sm := formsOf_small rs hR.ax y (by rw [← hy]; exact List.mem_of_getElem? ho)
        omega
      refine ⟨_, rfl, ?_⟩
      rw [← ep]
      refine ite2 (fun c => ?_) (fun c => ?_)
      · refine ⟨_, rfl, ?_⟩
        have : firstOf ⟨as_, rs, gs⟩ g = (i : Int) := by
          unfold firstOf
          rw [first_is' (c := Vapcma.count ⟨as_, rs, gs⟩) (i := i) (p := fun i => Vapcma.provesIn (Vapcma.formulas ⟨as_, rs, gs⟩) i g) hj c hm]
        rw [← this]
        exact k H3 (s6.trans s3)
      · refine ⟨_, _, rfl, s6.trans s3, fun j hj => ?_⟩
        rcases Nat.lt_succ_iff_lt_or_eq.mp hj with hj | rfl
        · exact hm j hj
        · exact Bool.eq_false_iff.mpr c
    · rintro σ H' ⟨v2, v3, rfl, s5, hm⟩
      rw [e1] at hm
      have : firstOf ⟨as_, rs, gs⟩ g = -1 := by
        unfold firstOf
        rw [first_none (c := Vapcma.count ⟨as_, rs, gs⟩) (p := fun i => Vapcma.provesIn (Vapcma.formulas ⟨as_, rs, gs⟩) i g) hm]
      have k1 := k H' s5
      rw [this] at k1
      exact ⟨_, rfl, k1⟩
def sp_goals (L : Lay) : Sp := fun vs H Q _ => ∃ (h : HAd) (as_ : List Axiom) (rs : List Vapcma.Row) (gs : List Form), vs = [.ref h.a] ∧ HeldAt H L h as_ rs gs ∧ Right as_ rs gs ∧ Answers H Q (Vapcma.looked ⟨as_, rs, gs⟩ .goals)
abbrev s_goals : Stmt := top 83
theorem sc_goals : FnScope ["held", "goal"] ["held"] (defScope s_goals) := ⟨rfl, rfl, rfl, by decide +kernel, rfl, by decide +kernel, by decide +kernel⟩
theorem ok_goals {f : Addr} {fd : FuncData} (F : Fun K "goals" "goals" s_goals f fd) (T : Txt K mg L) (h_first_proof : HasDef P w K mg base CX0 5 "first_proof" ["held", "goal"] (sp_first_proof K L)) :
    FnOk P w K mg base CX0 6 f fd ["held"] (sp_goals L) := by
  refine F.ok sc_goals (fun vs H Q E h => ?_) (fun cdv A outer s H vs Q E hr h => ?_)
  · obtain ⟨h, as_, rs, gs, rfl, _⟩ := h
    rfl
  · have n_len := T.n_len
    obtain ⟨f_first_proof, fd_first_proof, m_first_proof, k_first_proof, b_first_proof, G_first_proof⟩ := h_first_proof
    refine ⟨_, pss_one (ps_ret (pe_op op_cat (pe_lst (pa_cons (pe_callB call_len_seq (by rfl) n_len PySem.boot_len (pa_cons (pe_fld (pv 0) rfl) pa_nil)) pa_nil))
        (pe_lc (own := [("goal", 1)]) (g := gName 1) (tt := tYes) rfl sc_goals.nd (pi_list (pe_fld (pv 0) rfl)) (blkOk_by (own := [("goal", 1)]) (N := ["held", "goal"]) (sc := defScope s_goals) (by decide +kernel)) (fun _ _ _ _ _ => pg_name (i := 1) sc_goals.nd rfl (Or.inl rfl)) (fun _ _ _ _ _ => pts_nil)
          (fun _ _ _ _ _ => pe_call G_first_proof (hr.mono (by decide)) rfl m_first_proof k_first_proof b_first_proof .nil pass0 (pa_cons (pv 0) (pa_cons (pv 1) pa_nil)))))), ?_⟩
    obtain ⟨h, as_, rs, gs, rfl, hH, hR, k⟩ := h
    have hzg := hR.ng
    obtain ⟨us, g1, g2, g3⟩ := hH.gls
    have eu : us.length = gs.length := by rw [g2.length, List.length_map]
    have k : Answers H Q ⟨(gs.length : Int), gs.map fun g => firstOf ⟨as_, rs, gs⟩ g⟩ := k
    refine ⟨_, rfl, h.a, _, _, _, _, rfl, hH.obj, T.cHeld, T.nHeld_goals, held_goals _ _ _ _, h.ga, _, rfl, .inl (SqL.of g1), (by show 1 ≤ sizeLine; decide), fun p np => ?_⟩
    have sp1 : Same H (upd H p (.lst [V.int (us.length : Int)])) := same_new np
    have hH1 := hH.same sp1
    refine ⟨_, rfl, h.a, _, _, _, _, rfl, hH1.obj, T.cHeld, T.nHeld_goals, held_goals _ _ _ _, h.ga, rfl, ⟨_, SqL.of (sp1 _ _ g1)⟩, fun D nD => ?_⟩
    have npD : p ≠ D := ne_of_none upd_same nD
    have fD : H D = none := sp1.free nD
    refine lc_list (K := K) (a := h.ga) (xs := us) (fun i H2 => Same H H2 ∧ H2 p = some (.lst [V.int (us.length : Int)]) ∧ H2 D = some (.lst ((gs.take i).map fun g => V.int (firstOf ⟨as_, rs, gs⟩ g))))
      ⟨sp1.trans (same_new nD), by rw [upd_ne npD, upd_same], upd_same⟩ (fun i H2 _ ⟨s2, _⟩ => SqL.of (s2 _ _ g1)) ?_ ?_
    · rintro i x H2 hx ⟨s2, hp2, hD2⟩
      have hil : i < gs.length := by
        have := (List.getElem?_eq_some_iff.mp hx).1
        omega
      obtain ⟨g, hg⟩ : ∃ g, gs[i]? = some g := ⟨_, List.getElem?_eq_getElem hil⟩
      obtain ⟨u, hu, hJ⟩ := g2.get (i := i) (o := some g) (by rw [List.getElem?_map, hg]; rfl)
      rw [hx] at hu
      cases hu
      obtain ⟨b, rfl, hb⟩ := hJ
      refine ⟨rfl, _, rfl, _, rfl, h, as_, rs, gs, b, g, rfl, hH.same s2, hR, SqL.of (s2 _ _ hb), fun H3 s3 => ?_⟩
      refine ⟨_, s3 _ _ hD2, by rw [List.length_map, List.length_take, sizeLine_eq]; omega, fun a o z => ?_, ?_, ?_⟩
      · rw [upd_ne (ne_of_none z fD)]; exact s3 _ _ (s2 a o z)
      · rw [upd_ne npD]; exact s3 _ _ hp2
      · rw [upd_same, take_succ' hg, List.map_append]
        rfl
    · rintro H2 ⟨s2, hp2, hD2⟩
      rw [eu, List.take_length] at hD2
      refine ⟨p, D, _, _, rfl, rfl, hp2, hD2, ?_, fun r nr => ?_⟩
      · rw [List.length_map, sizeLine_eq]
        simp only [List.length_cons, List.length_nil]
        omega
      · refine k _ r (s2.trans (same_new nr)) (s2.free nr) ?_
        rw [upd_same, eu]
        unfold intV VapcmaNeutral.encode
        simp
end
end Dr

namespace Dr
open PySem PySem.Spec PyProof.Rows L2
open Vapcma (Form Axiom Text_)
open VapcmBase (Bytes Answer)
section
variable {P : Program} {w : World} {K : PySem.W.Frag} {mg : Str → Option Value} {base : Heap} {L : Lay}
abbrev s_Desk_answer : Stmt := inClass (top 72) 1
theorem sc_Desk_answer : FnScope ["self", "call", "given"] ["self", "call", "given"] (defScope s_Desk_answer) := ⟨rfl, rfl, rfl, by decide +kernel, rfl, by decide +kernel, by decide +kernel⟩
theorem ok_Desk_answer {f : Addr} {fd : FuncData} (F : Fun K "answer" "Desk.answer" s_Desk_answer f fd) (T : Txt K mg L)
    (h_load : HasMeth P w K mg base CX0 8 L.Desk "load" ["self", "data"] (sp_load L)) (h_shown : HasDef P w K mg base CX0 4 "shown" ["held"] (sp_shown L)) (h_formula : HasDef P w K mg base CX0 3 "formula" ["held", "item"] (sp_formula L))
    (h_sizes : HasDef P w K mg base CX0 3 "sizes" ["held", "item"] (sp_sizes L)) (h_proves : HasDef P w K mg base CX0 5 "proves" ["held", "item", "goal"] (sp_proves L)) (h_detach : HasDef P w K mg base CX0 4 "detach" ["held", "first", "second"] (sp_detach L))
    (h_compare : HasDef P w K mg base CX0 4 "compare" ["held", "first", "second"] (sp_compare L)) (h_needs : HasDef P w K mg base CX0 3 "needs" ["held", "item"] (sp_needs L)) (h_goals : HasDef P w K mg base CX0 6 "goals" ["held"] (sp_goals L)) :
    FnOk P w K mg base CX0 9 f fd ["self", "call", "given"] (sp_answer L) := by
  refine F.ok sc_Desk_answer (fun vs H Q E h => ?_) (fun cdv A outer s H vs Q E hr h => ?_)
  · obtain ⟨B, g, o, p, q, xs, c, rfl, _⟩ := h
    rfl
  · obtain ⟨t0, g_LOAD⟩ := T.vLOAD
    obtain ⟨t1, g_SHOWN⟩ := T.vSHOWN
    obtain ⟨t2, g_FORMULA⟩ := T.vFORMULA
    obtain ⟨t3, g_SIZES⟩ := T.vSIZES
    obtain ⟨t4, g_PROVES⟩ := T.vPROVES
    obtain ⟨t5, g_DETACH⟩ := T.vDETACH
    obtain ⟨t6, g_COMPARE⟩ := T.vCOMPARE
    obtain ⟨t7, g_NEEDS⟩ := T.vNEEDS
    obtain ⟨f1, fd1, M_Desk_load, b_Desk_load, G_Desk_load⟩ := h_load
    obtain ⟨f_shown, fd_shown, m_shown, k_shown, b_shown, G_shown⟩ := h_shown
    obtain ⟨f_formula, fd_formula, m_formula, k_formula, b_formula, G_formula⟩ := h_formula
    obtain ⟨f_sizes, fd_sizes, m_sizes, k_sizes, b_sizes, G_sizes⟩ := h_sizes
    obtain ⟨f_proves, fd_proves, m_proves, k_proves, b_proves, G_proves⟩ := h_proves
    obtain ⟨f_detach, fd_detach, m_detach, k_detach, b_detach, G_detach⟩ := h_detach
    obtain ⟨f_compare, fd_compare, m_compare, k_compare, b_compare, G_compare⟩ := h_compare
    obtain ⟨f_needs, fd_needs, m_needs, k_needs, b_needs, G_needs⟩ := h_needs
    obtain ⟨f_goals, fd_goals, m_goals, k_goals, b_goals, G_goals⟩ := h_goals
    refine ⟨_, pss_cons (ps_if (pt_cmpR op_eq (pv 1) (pe_gi g_LOAD) (nomark _))
        (pss_one (ps_ret (pe_meth (pv 0) T.cDesk M_Desk_load G_Desk_load (hr.mono (by decide)) b_Desk_load .nil pass0 (pa_cons (pv 2) pa_nil))))
        (pss_nil))
      (pss_cons (ps_if (pt_cmpR op_isN (pe_fld (pv 0) rfl) pe_non (nomark _))
        (pss_one (ps_ret (pe_lst (pa_cons (pe_un un_neg pe_int) pa_nil))))
        (pss_nil))
      (pss_cons (ps_if (pt_cmpR op_eq (pv 1) (pe_gi g_SHOWN) (nomark _))
        (pss_one (ps_ret (pe_call G_shown (hr.mono (by decide)) rfl m_shown k_shown b_shown .nil pass0 (pa_cons (pe_fld (pv 0) rfl) pa_nil))))
        (pss_nil))
      (pss_cons (ps_if (pt_cmpR op_eq (pv 1) (pe_gi g_FORMULA) (nomark _))
        (pss_one (ps_ret (pe_call G_formula (hr.mono (by decide)) rfl m_formula k_formula b_formula .nil pass0 (pa_cons (pe_fld (pv 0) rfl) (pa_cons (pe_ix ix_list (pv 2) pe_int (fun _ _ => rfl)) pa_nil)))))
        (pss_nil))
      (pss_cons (ps_if (pt_cmpR op_eq (pv 1) (pe_gi g_SIZES) (nomark _))
        (pss_one (ps_ret (pe_call G_sizes (hr.mono (by decide)) rfl m_sizes k_sizes b_sizes .nil pass0 (pa_cons (pe_fld (pv 0) rfl) (pa_cons (pe_ix ix_list (pv 2) pe_int (fun _ _ => rfl)) pa_nil)))))
        (pss_nil))
      (pss_cons (ps_if (pt_cmpR op_eq (pv 1) (pe_gi g_PROVES) (nomark _))
        (pss_one (ps_ret (pe_call G_proves (hr.mono (by decide)) rfl m_proves k_proves b_proves .nil pass0 (pa_cons (pe_fld (pv 0) rfl) (pa_cons (pe_ix ix_list (pv 2) pe_int (fun _ _ => rfl)) (pa_cons (pe_ix ix_list (pv 2) pe_int (fun _ _ => rfl)) pa_nil))))))
        (pss_nil))
      (pss_cons (ps_if (pt_cmpR op_eq (pv 1) (pe_gi g_DETACH) (nomark _))
        (pss_one (ps_ret (pe_call G_detach (hr.mono (by decide)) rfl m_detach k_detach b_detach .nil pass0 (pa_cons (pe_fld (pv 0) rfl) (pa_cons (pe_ix ix_list (pv 2) pe_int (fun _ _ => rfl)) (pa_cons (pe_ix ix_list (pv 2) pe_int (fun _ _ => rfl)) pa_nil))))))
        (pss_nil))
      (pss_cons (ps_if (pt_cmpR op_eq (pv 1) (pe_gi g_COMPARE) (nomark _))
        (pss_one (ps_ret (pe_call G_compare (hr.mono (by decide)) rfl m_compare k_compare b_compare .nil pass0 (pa_cons (pe_fld (pv 0) rfl) (pa_cons (pe_ix ix_list (pv 2) pe_int (fun _ _ => rfl)) (pa_cons (pe_ix ix_list (pv 2) pe_int (fun _ _ => rfl)) pa_nil))))))
        (pss_nil))
      (pss_cons (ps_if (pt_cmpR op_eq (pv 1) (pe_gi g_NEEDS) (nomark _))
        (pss_one (ps_ret (pe_call G_needs (hr.mono (by decide)) rfl m_needs k_needs b_needs .nil pass0 (pa_cons (pe_fld (pv 0) rfl) (pa_cons (pe_ix ix_list (pv 2) pe_int (fun _ _ => rfl)) pa_nil)))))
        (pss_nil))
      (pss_one (ps_ret (pe_call G_goals (hr.mono (by decide)) rfl m_goals k_goals b_goals .nil pass0 (pa_cons (pe_fld (pv 0) rfl) pa_nil)))))))))))), ?_⟩
    obtain ⟨B, g, o, p, q, xs, c, rfl, hD, hB, hq, hca, k⟩ := h
    obtain ⟨v, d1, d2⟩ := hD
    have hD : DeskAt B H L g o := ⟨v, d1, d2⟩
    refine ⟨_, rfl, rfl, _, rfl, ?_⟩
    by_cases hp : p = 0
    · subst hp
      refine iteT' (decide_eq_true rfl) ?_
      cases hca with
      | load _ h b => exact ⟨_, rfl, g.a, _, _, rfl, d1, (lk_past (by decide +kernel)).trans rfl, _, rfl, B, g, o, q, xs, rfl, hD, hB, hq, h, b, k⟩
      | none _ h => rcases h with h | h <;> cases h
      | one _ x h => rcases h with h | h | h <;> cases h
      | two _ x y h => rcases h with h | h | h <;> cases h
    refine iteF' (decide_eq_false (by intro z; exact hp (V.int.inj z))) ?_
    refine ⟨_, rfl, g.a, _, _, _, _, rfl, d1, T.cDesk, T.nDesk_held, desk_held _, rfl, _, rfl, ?_⟩
    cases o with
    | none =>
      obtain rfl : v = .non := d2
      refine iteT' (by decide) ?_
      refine ⟨_, rfl, (by show 1 ≤ sizeLine; decide), fun r nr => ?_⟩
      rw [step_none hca hp] at k
      exact k _ r (hD.same (same_new nr)) (Fr.of (same_new nr)) nr upd_same
    | some t =>
    obtain ⟨h, rfl, hH, hR, hBB⟩ := d2
    refine iteF' (by simp) ?_
    have ne : ∀ {z : Int}, p ≠ z → decide (V.int p = V.int z) = false := fun h => decide_eq_false (by intro e; exact h (V.int.inj e))
    have i0 : ∀ {x : Int}, xs[0]? = some x → atI (intV xs) 0 = some (.int x) := fun e => int_at (i := 0) e
    have i1 : ∀ {x : Int}, xs[1]? = some x → atI (intV xs) 1 = some (.int x) := fun e => int_at (i := 1) e
    cases hca with
    | load _ h b => exact absurd rfl hp
    | none _ hpp =>
      rcases hpp with rfl | rfl
      · refine ⟨_, rfl, rfl, _, rfl, ?_⟩
        refine iteT' (decide_eq_true rfl) ?_
        exact ⟨_, rfl, g.a, _, _, _, _, rfl, d1, T.cDesk, T.nDesk_held, desk_held _, h, _, _, _, rfl, hH, hR, looks_out hD (step_shown t) k⟩
      · refine ⟨_, rfl, rfl, _, rfl, iteF' (ne (by decide)) ⟨_, rfl, rfl, _, rfl, iteF' (ne (by decide)) ⟨_, rfl, rfl, _, rfl, iteF' (ne (by decide)) ⟨_, rfl, rfl, _, rfl, iteF' (ne (by decide)) ⟨_, rfl, rfl, _, rfl, iteF' (ne (by decide)) ⟨_, rfl, rfl, _, rfl, iteF' (ne (by decide)) ⟨_, rfl, rfl, _, rfl, iteF' (ne (by decide)) ?_⟩⟩⟩⟩⟩⟩⟩
        exact ⟨_, rfl, g.a, _, _, _, _, rfl, d1, T.cDesk, T.nDesk_held, desk_held _, h, _, _, _, rfl, hH, hR, looks_out hD (step_goals t) k⟩
    | one _ x hpp =>
      refine ⟨_, rfl, rfl, _, rfl, ?_⟩
      refine iteF' (ne (by omega)) ?_
      refine ⟨_, rfl, rfl, _, rfl, ?_⟩
      rcases hpp with rfl | rfl | rfl
      · refine iteT' (decide_eq_true rfl) ?_
        exact ⟨_, rfl, g.a, _, _, _, _, rfl, d1, T.cDesk, T.nDesk_held, desk_held _, _, rfl, q, _, 0, _, rfl, rfl, SqL.of hq, int_at (i := 0) rfl, h, _, _, _, x, rfl, hH, hR, looks_out hD (step_formula t x) k⟩
      · refine iteF' (ne (by decide)) ⟨_, rfl, rfl, _, rfl, iteT' (decide_eq_true rfl) ?_⟩
        exact ⟨_, rfl, g.a, _, _, _, _, rfl, d1, T.cDesk, T.nDesk_held, desk_held _, _, rfl, q, _, 0, _, rfl, rfl, SqL.of hq, int_at (i := 0) rfl, h, _, _, _, x, rfl, hH, hR, looks_out hD (step_sizes t x) k⟩
      · refine iteF' (ne (by decide)) ⟨_, rfl, rfl, _, rfl, iteF' (ne (by decide)) ⟨_, rfl, rfl, _, rfl, iteF' (ne (by decide)) ⟨_, rfl, rfl, _, rfl, iteF' (ne (by decide)) ⟨_, rfl, rfl, _, rfl, iteF' (ne (by decide)) ⟨_, rfl, rfl, _, rfl, iteT' (decide_eq_true rfl) ?_⟩⟩⟩⟩⟩
        exact ⟨_, rfl, g.a, _, _, _, _, rfl, d1, T.cDesk, T.nDesk_held, desk_held _, _, rfl, q, _, 0, _, rfl, rfl, SqL.of hq, int_at (i := 0) rfl, h, _, _, _, x, rfl, hH, hR, looks_out hD (step_needs t x) k⟩
    | two _ x y hpp =>
      refine ⟨_, rfl, rfl, _, rfl, ?_⟩
      refine iteF' (ne (by omega)) ?_
      refine ⟨_, rfl, rfl, _, rfl, ?_⟩
      refine iteF' (ne (by omega)) ?_
      refine ⟨_, rfl, rfl, _, rfl, ?_⟩
      refine iteF' (ne (by omega)) ?_
      refine ⟨_, rfl, rfl, _, rfl, ?_⟩
      rcases hpp with rfl | rfl | rfl
      · refine iteT' (decide_eq_true rfl) ?_
        exact ⟨_, rfl, g.a, _, _, _, _, rfl, d1, T.cDesk, T.nDesk_held, desk_held _, _, rfl, q, _, 0, _, rfl, rfl, SqL.of hq, int_at (i := 0) rfl, _, rfl, q, _, 1, _, rfl, rfl, SqL.of hq, int_at (i := 1) rfl, h, _, _, _, x, y, rfl, hH, hR, looks_out hD (step_proves t x y) k⟩
      · refine iteF' (ne (by decide)) ⟨_, rfl, rfl, _, rfl, iteT' (decide_eq_true rfl) ?_⟩
        exact ⟨_, rfl, g.a, _, _, _, _, rfl, d1, T.cDesk, T.nDesk_held, desk_held _, _, rfl, q, _, 0, _, rfl, rfl, SqL.of hq, int_at (i := 0) rfl, _, rfl, q, _, 1, _, rfl, rfl, SqL.of hq, int_at (i := 1) rfl, h, _, _, _, x, y, rfl, hH, hR, looks_out hD (step_detach t x y) k⟩
      · refine iteF' (ne (by decide)) ⟨_, rfl, rfl, _, rfl, iteF' (ne (by decide)) ⟨_, rfl, rfl, _, rfl, iteT' (decide_eq_true rfl) ?_⟩⟩
        exact ⟨_, rfl, g.a, _, _, _, _, rfl, d1, T.cDesk, T.nDesk_held, desk_held _, _, rfl, q, _, 0, _, rfl, rfl, SqL.of hq, int_at (i := 0) rfl, _, rfl, q, _, 1, _, rfl, rfl, SqL.of hq, int_at (i := 1) rfl, h, _, _, _, x, y, rfl, hH, hR, looks_out hD (step_compare t x y) k⟩
end
end Dr


namespace Dr
open PySem PySem.Spec PyProof.Rows L2
theorem flt_te {K : PySem.W.Frag} {C : Addr} (h1 : PySem.W.subIn K (.ref C) (.type "BaseException") = some true) (h2 : PySem.W.isClsIn K C = true) (h3 : PySem.W.typeIn K (.ref C) = some (.type "type")) (h4 : PySem.W.subIn K (.ref C) (.ref C) = some true) : PySem.W.exmOne K (.ref C) (.ref C) = some true := by
  unfold PySem.W.isClsIn at h2
  simp [PySem.W.exmOne, PySem.W.kitCls, h1, h2, h3, h4]
theorem all_mk {P : Program} {w : World} {K : PySem.W.Frag} {h : Heap} {mg : Str → Option Value} {fa : Addr} (X : K.In h) (G : h.Ns mainGlobals mg) (hfa : mg "answers" = some (.ref fa))
    {C_Fault C_Net C_Held C_Cursor C_Draft C_Desk f_Fault___init__ f_unknown_sign f_is_unknown f_told f_part_end f_is_instance f_written f_bracketed f_Net___init__ f_Net_add_node f_Net_add_formula f_Net_leader f_Net_make_same f_Net_formula_of f_detached f_Held___init__ f_Held_axiom_count f_Held_add_axiom f_Held_add_row f_one_form f_tree_sizes f_items_hung_on f_characters f_all_tokens f_after_blanks f_remark_end f_token_end f_run_end f_is_number f_is_name f_Cursor___init__ f_Cursor_word f_Cursor_here f_Cursor_go_on f_Cursor_expect f_Cursor_name f_Draft___init__ f_Draft_is_whole f_Draft_takes f_Draft_put f_Draft_put_bracket_end f_Draft_end_part f_read_formula f_read_text f_read_axioms f_read_axiom f_read_rows f_read_goals f_check_room f_read_new_name f_read_item f_Desk___init__ f_Desk_answer f_Desk_load f_has_number f_shown f_refused f_formula f_sizes f_is_proved f_proves f_detach f_compare f_needs f_goals f_first_proof f_answers A_KEYWORDS A_GIVEN : Addr} {od_unknown_sign an_unknown_sign od_is_unknown an_is_unknown od_told an_told od_part_end an_part_end od_is_instance an_is_instance od_written an_written od_bracketed an_bracketed od_Net___init__ an_Net___init__ od_Net_add_node an_Net_add_node od_Net_add_formula an_Net_add_formula od_Net_leader an_Net_leader od_Net_make_same an_Net_make_same od_Net_formula_of an_Net_formula_of od_detached an_detached od_Held___init__ an_Held___init__ od_Held_axiom_count an_Held_axiom_count od_Held_add_axiom an_Held_add_axiom od_Held_add_row an_Held_add_row od_one_form an_one_form od_tree_sizes an_tree_sizes od_items_hung_on an_items_hung_on od_characters an_characters od_all_tokens an_all_tokens od_after_blanks an_after_blanks od_remark_end an_remark_end od_token_end an_token_end od_run_end an_run_end od_is_number an_is_number od_is_name an_is_name od_Cursor___init__ an_Cursor___init__ od_Cursor_word an_Cursor_word od_Cursor_here an_Cursor_here od_Cursor_go_on an_Cursor_go_on od_Cursor_expect an_Cursor_expect od_Cursor_name an_Cursor_name od_Draft___init__ an_Draft___init__ od_Draft_is_whole an_Draft_is_whole od_Draft_takes an_Draft_takes od_Draft_put an_Draft_put od_Draft_put_bracket_end an_Draft_put_bracket_end od_Draft_end_part an_Draft_end_part od_read_formula an_read_formula od_read_text an_read_text od_read_axioms an_read_axioms od_read_axiom an_read_axiom od_read_rows an_read_rows od_read_goals an_read_goals od_check_room an_check_room od_read_new_name an_read_new_name od_read_item an_read_item od_Desk___init__ an_Desk___init__ od_Desk_answer an_Desk_answer od_Desk_load an_Desk_load od_has_number an_has_number od_shown an_shown od_refused an_refused od_formula an_formula od_sizes an_sizes od_is_proved an_is_proved od_proves an_proves od_detach an_detach od_compare an_compare od_needs an_needs od_goals an_goals od_first_proof an_first_proof od_answers an_answers odF anF ddF : Option Addr} {sl_unknown_sign sl_is_unknown sl_told sl_part_end sl_is_instance sl_written sl_bracketed sl_Net___init__ sl_Net_add_node sl_Net_add_formula sl_Net_leader sl_Net_make_same sl_Net_formula_of sl_detached sl_Held___init__ sl_Held_axiom_count sl_Held_add_axiom sl_Held_add_row sl_one_form sl_tree_sizes sl_items_hung_on sl_characters sl_all_tokens sl_after_blanks sl_remark_end sl_token_end sl_run_end sl_is_number sl_is_name sl_Cursor___init__ sl_Cursor_word sl_Cursor_here sl_Cursor_go_on sl_Cursor_expect sl_Cursor_name sl_Draft___init__ sl_Draft_is_whole sl_Draft_takes sl_Draft_put sl_Draft_put_bracket_end sl_Draft_end_part sl_read_formula sl_read_text sl_read_axioms sl_read_axiom sl_read_rows sl_read_goals sl_check_room sl_read_new_name sl_read_item sl_Desk___init__ sl_Desk_answer sl_Desk_load sl_has_number sl_shown sl_refused sl_formula sl_sizes sl_is_proved sl_proves sl_detach sl_compare sl_needs sl_goals sl_first_proof sl_answers slF : Array (Option Value)} {oc_unknown_sign kV_unknown_sign dc_unknown_sign pm_unknown_sign cd_unknown_sign ct_unknown_sign oc_is_unknown kV_is_unknown dc_is_unknown pm_is_unknown cd_is_unknown ct_is_unknown oc_told kV_told dc_told pm_told cd_told ct_told oc_part_end kV_part_end dc_part_end pm_part_end cd_part_end ct_part_end oc_is_instance kV_is_instance dc_is_instance pm_is_instance cd_is_instance ct_is_instance oc_written kV_written dc_written pm_written cd_written ct_written oc_bracketed kV_bracketed dc_bracketed pm_bracketed cd_bracketed ct_bracketed oc_Net___init__ kV_Net___init__ dc_Net___init__ pm_Net___init__ cd_Net___init__ ct_Net___init__ oc_Net_add_node kV_Net_add_node dc_Net_add_node pm_Net_add_node cd_Net_add_node ct_Net_add_node oc_Net_add_formula kV_Net_add_formula dc_Net_add_formula pm_Net_add_formula cd_Net_add_formula ct_Net_add_formula oc_Net_leader kV_Net_leader dc_Net_leader pm_Net_leader cd_Net_leader ct_Net_leader oc_Net_make_same kV_Net_make_same dc_Net_make_same pm_Net_make_same cd_Net_make_same ct_Net_make_same oc_Net_formula_of kV_Net_formula_of dc_Net_formula_of pm_Net_formula_of cd_Net_formula_of ct_Net_formula_of oc_detached kV_detached dc_detached pm_detached cd_detached ct_detached oc_Held___init__ kV_Held___init__ dc_Held___init__ pm_Held___init__ cd_Held___init__ ct_Held___init__ oc_Held_axiom_count kV_Held_axiom_count dc_Held_axiom_count pm_Held_axiom_count cd_Held_axiom_count ct_Held_axiom_count oc_Held_add_axiom kV_Held_add_axiom dc_Held_add_axiom pm_Held_add_axiom cd_Held_add_axiom ct_Held_add_axiom oc_Held_add_row kV_Held_add_row dc_Held_add_row pm_Held_add_row cd_Held_add_row ct_Held_add_row oc_one_form kV_one_form dc_one_form pm_one_form cd_one_form ct_one_form oc_tree_sizes kV_tree_sizes dc_tree_sizes pm_tree_sizes cd_tree_sizes ct_tree_sizes oc_items_hung_on kV_items_hung_on dc_items_hung_on pm_items_hung_on cd_items_hung_on ct_items_hung_on oc_characters kV_characters dc_characters pm_characters cd_characters ct_characters oc_all_tokens kV_all_tokens dc_all_tokens pm_all_tokens cd_all_tokens ct_all_tokens oc_after_blanks kV_after_blanks dc_after_blanks pm_after_blanks cd_after_blanks ct_after_blanks oc_remark_end kV_remark_end dc_remark_end pm_remark_end cd_remark_end ct_remark_end oc_token_end kV_token_end dc_token_end pm_token_end cd_token_end ct_token_end oc_run_end kV_run_end dc_run_end pm_run_end cd_run_end ct_run_end oc_is_number kV_is_number dc_is_number pm_is_number cd_is_number ct_is_number oc_is_name kV_is_name dc_is_name pm_is_name cd_is_name ct_is_name oc_Cursor___init__ kV_Cursor___init__ dc_Cursor___init__ pm_Cursor___init__ cd_Cursor___init__ ct_Cursor___init__ oc_Cursor_word kV_Cursor_word dc_Cursor_word pm_Cursor_word cd_Cursor_word ct_Cursor_word oc_Cursor_here kV_Cursor_here dc_Cursor_here pm_Cursor_here cd_Cursor_here ct_Cursor_here oc_Cursor_go_on kV_Cursor_go_on dc_Cursor_go_on pm_Cursor_go_on cd_Cursor_go_on ct_Cursor_go_on oc_Cursor_expect kV_Cursor_expect dc_Cursor_expect pm_Cursor_expect cd_Cursor_expect ct_Cursor_expect oc_Cursor_name kV_Cursor_name dc_Cursor_name pm_Cursor_name cd_Cursor_name ct_Cursor_name oc_Draft___init__ kV_Draft___init__ dc_Draft___init__ pm_Draft___init__ cd_Draft___init__ ct_Draft___init__ oc_Draft_is_whole kV_Draft_is_whole dc_Draft_is_whole pm_Draft_is_whole cd_Draft_is_whole ct_Draft_is_whole oc_Draft_takes kV_Draft_takes dc_Draft_takes pm_Draft_takes cd_Draft_takes ct_Draft_takes oc_Draft_put kV_Draft_put dc_Draft_put pm_Draft_put cd_Draft_put ct_Draft_put oc_Draft_put_bracket_end kV_Draft_put_bracket_end dc_Draft_put_bracket_end pm_Draft_put_bracket_end cd_Draft_put_bracket_end ct_Draft_put_bracket_end oc_Draft_end_part kV_Draft_end_part dc_Draft_end_part pm_Draft_end_part cd_Draft_end_part ct_Draft_end_part oc_read_formula kV_read_formula dc_read_formula pm_read_formula cd_read_formula ct_read_formula oc_read_text kV_read_text dc_read_text pm_read_text cd_read_text ct_read_text oc_read_axioms kV_read_axioms dc_read_axioms pm_read_axioms cd_read_axioms ct_read_axioms oc_read_axiom kV_read_axiom dc_read_axiom pm_read_axiom cd_read_axiom ct_read_axiom oc_read_rows kV_read_rows dc_read_rows pm_read_rows cd_read_rows ct_read_rows oc_read_goals kV_read_goals dc_read_goals pm_read_goals cd_read_goals ct_read_goals oc_check_room kV_check_room dc_check_room pm_check_room cd_check_room ct_check_room oc_read_new_name kV_read_new_name dc_read_new_name pm_read_new_name cd_read_new_name ct_read_new_name oc_read_item kV_read_item dc_read_item pm_read_item cd_read_item ct_read_item oc_Desk___init__ kV_Desk___init__ dc_Desk___init__ pm_Desk___init__ cd_Desk___init__ ct_Desk___init__ oc_Desk_answer kV_Desk_answer dc_Desk_answer pm_Desk_answer cd_Desk_answer ct_Desk_answer oc_Desk_load kV_Desk_load dc_Desk_load pm_Desk_load cd_Desk_load ct_Desk_load oc_has_number kV_has_number dc_has_number pm_has_number cd_has_number ct_has_number oc_shown kV_shown dc_shown pm_shown cd_shown ct_shown oc_refused kV_refused dc_refused pm_refused cd_refused ct_refused oc_formula kV_formula dc_formula pm_formula cd_formula ct_formula oc_sizes kV_sizes dc_sizes pm_sizes cd_sizes ct_sizes oc_is_proved kV_is_proved dc_is_proved pm_is_proved cd_is_proved ct_is_proved oc_proves kV_proves dc_proves pm_proves cd_proves ct_proves oc_detach kV_detach dc_detach pm_detach cd_detach ct_detach oc_compare kV_compare dc_compare pm_compare cd_compare ct_compare oc_needs kV_needs dc_needs pm_needs cd_needs ct_needs oc_goals kV_goals dc_goals pm_goals cd_goals ct_goals oc_first_proof kV_first_proof dc_first_proof pm_first_proof cd_first_proof ct_first_proof oc_answers kV_answers dc_answers pm_answers cd_answers ct_answers ocF dcF pmF cdF ctF : Value}
    {nmF qF : Str} {NF : Addr} {bsF : List Value} {snF : List Str} {subF : List Value} {abF : Bool} {colF : Option Bool} {m0F m1F m2F m3F m5F : Option Value} {p1 p2 p3 q1 q2 q3 q4 q5 q6 q7 q8 : Pos}
    {t_IMPLIES t_DENIES t_FIRST_UNKNOWN t_MOST_FITTED t_MOST_DETACHED t_BLANKS t_REMARK t_SIGNS t_DIGITS t_LETTERS t_STRANGE t_END t_LONGEST_NAME t_GREATEST_NUMBER t_LONGEST_NUMBER t_MOST_SIGNS t_MOST_AROUND t_MOST_BYTES t_MOST_AXIOMS t_MOST_ROWS t_MOST_GOALS t_LOAD t_SHOWN t_FORMULA t_SIZES t_PROVES t_DETACH t_COMPARE t_NEEDS t_KEYWORDS0 t_KEYWORDS1 t_KEYWORDS2 t_GIVEN0 t_GIVEN1 t_GIVEN2 t_GIVEN3 t_GIVEN4 t_GIVEN5 t_GIVEN6 t_GIVEN7 t_GIVEN8 : PySem.Tok} {dd_KEYWORDS : Option Addr} {nn_KEYWORDS : Nat} {ss_KEYWORDS : Array (Option Value)} {dd_GIVEN : Option Addr} {nn_GIVEN : Nat} {ss_GIVEN : Array (Option Value)}
    (g_Fault : PySem.W.nsIn K mainGlobals "Fault" = some (some (.ref C_Fault)))
    (g_Net : PySem.W.nsIn K mainGlobals "Net" = some (some (.ref C_Net)))
    (g_Held : PySem.W.nsIn K mainGlobals "Held" = some (some (.ref C_Held)))
    (g_Cursor : PySem.W.nsIn K mainGlobals "Cursor" = some (some (.ref C_Cursor)))
    (g_Draft : PySem.W.nsIn K mainGlobals "Draft" = some (some (.ref C_Draft)))
    (g_Desk : PySem.W.nsIn K mainGlobals "Desk" = some (some (.ref C_Desk)))
    (a_Fault___init__ : PySem.W.findIn K (.ref C_Fault) "__init__" = some (some (.ref f_Fault___init__)))
    (t_Fault___init__ : PySem.W.typeIn K (.ref f_Fault___init__) = some (.type "function"))
    (a_unknown_sign : PySem.W.nsIn K mainGlobals "unknown_sign" = some (some (.ref f_unknown_sign)))
    (l_unknown_sign : K.lookup f_unknown_sign = some ⟨oc_unknown_sign, od_unknown_sign, .func (PySem.W.fnOf "unknown_sign" "unknown_sign" (defArgs s_unknown_sign) (defBody s_unknown_sign) (defScope s_unknown_sign) .none kV_unknown_sign dc_unknown_sign pm_unknown_sign an_unknown_sign cd_unknown_sign ct_unknown_sign), sl_unknown_sign⟩)
    (c_unknown_sign : PySem.W.codeIn K cd_unknown_sign "unknown_sign" = true)
    (k_unknown_sign : PySem.W.keepIn K (.ref f_unknown_sign) = true)
    (a_is_unknown : PySem.W.nsIn K mainGlobals "is_unknown" = some (some (.ref f_is_unknown)))
    (l_is_unknown : K.lookup f_is_unknown = some ⟨oc_is_unknown, od_is_unknown, .func (PySem.W.fnOf "is_unknown" "is_unknown" (defArgs s_is_unknown) (defBody s_is_unknown) (defScope s_is_unknown) .none kV_is_unknown dc_is_unknown pm_is_unknown an_is_unknown cd_is_unknown ct_is_unknown), sl_is_unknown⟩)
    (c_is_unknown : PySem.W.codeIn K cd_is_unknown "is_unknown" = true)
    (k_is_unknown : PySem.W.keepIn K (.ref f_is_unknown) = true)
    (a_told : PySem.W.nsIn K mainGlobals "told" = some (some (.ref f_told)))
    (l_told : K.lookup f_told = some ⟨oc_told, od_told, .func (PySem.W.fnOf "told" "told" (defArgs s_told) (defBody s_told) (defScope s_told) .none kV_told dc_told pm_told an_told cd_told ct_told), sl_told⟩)
    (c_told : PySem.W.codeIn K cd_told "told" = true)
    (k_told : PySem.W.keepIn K (.ref f_told) = true)
    (a_part_end : PySem.W.nsIn K mainGlobals "part_end" = some (some (.ref f_part_end)))
    (l_part_end : K.lookup f_part_end = some ⟨oc_part_end, od_part_end, .func (PySem.W.fnOf "part_end" "part_end" (defArgs s_part_end) (defBody s_part_end) (defScope s_part_end) .none kV_part_end dc_part_end pm_part_end an_part_end cd_part_end ct_part_end), sl_part_end⟩)
    (c_part_end : PySem.W.codeIn K cd_part_end "part_end" = true)
    (k_part_end : PySem.W.keepIn K (.ref f_part_end) = true)
    (a_is_instance : PySem.W.nsIn K mainGlobals "is_instance" = some (some (.ref f_is_instance)))
    (l_is_instance : K.lookup f_is_instance = some ⟨oc_is_instance, od_is_instance, .func (PySem.W.fnOf "is_instance" "is_instance" (defArgs s_is_instance) (defBody s_is_instance) (defScope s_is_instance) .none kV_is_instance dc_is_instance pm_is_instance an_is_instance cd_is_instance ct_is_instance), sl_is_instance⟩)
    (c_is_instance : PySem.W.codeIn K cd_is_instance "is_instance" = true)
    (k_is_instance : PySem.W.keepIn K (.ref f_is_instance) = true)
    (a_written : PySem.W.nsIn K mainGlobals "written" = some (some (.ref f_written)))
    (l_written : K.lookup f_written = some ⟨oc_written, od_written, .func (PySem.W.fnOf "written" "written" (defArgs s_written) (defBody s_written) (defScope s_written) .none kV_written dc_written pm_written an_written cd_written ct_written), sl_written⟩)
    (c_written : PySem.W.codeIn K cd_written "written" = true)
    (k_written : PySem.W.keepIn K (.ref f_written) = true)
    (a_bracketed : PySem.W.nsIn K mainGlobals "bracketed" = some (some (.ref f_bracketed)))
    (l_bracketed : K.lookup f_bracketed = some ⟨oc_bracketed, od_bracketed, .func (PySem.W.fnOf "bracketed" "bracketed" (defArgs s_bracketed) (defBody s_bracketed) (defScope s_bracketed) .none kV_bracketed dc_bracketed pm_bracketed an_bracketed cd_bracketed ct_bracketed), sl_bracketed⟩)
    (c_bracketed : PySem.W.codeIn K cd_bracketed "bracketed" = true)
    (k_bracketed : PySem.W.keepIn K (.ref f_bracketed) = true)
    (a_Net___init__ : PySem.W.findIn K (.ref C_Net) "__init__" = some (some (.ref f_Net___init__)))
    (i_Net___init__ : PySem.W.isFn K (.ref f_Net___init__) = true)
    (l_Net___init__ : K.lookup f_Net___init__ = some ⟨oc_Net___init__, od_Net___init__, .func (PySem.W.fnOf "__init__" "Net.__init__" (defArgs s_Net_init) (defBody s_Net_init) (defScope s_Net_init) .none kV_Net___init__ dc_Net___init__ pm_Net___init__ an_Net___init__ cd_Net___init__ ct_Net___init__), sl_Net___init__⟩)
    (c_Net___init__ : PySem.W.codeIn K cd_Net___init__ "Net.__init__" = true)
    (k_Net___init__ : PySem.W.keepIn K (.ref f_Net___init__) = true)
    (a_Net_add_node : PySem.W.findIn K (.ref C_Net) "add_node" = some (some (.ref f_Net_add_node)))
    (i_Net_add_node : PySem.W.isFn K (.ref f_Net_add_node) = true)
    (l_Net_add_node : K.lookup f_Net_add_node = some ⟨oc_Net_add_node, od_Net_add_node, .func (PySem.W.fnOf "add_node" "Net.add_node" (defArgs s_Net_add_node) (defBody s_Net_add_node) (defScope s_Net_add_node) .none kV_Net_add_node dc_Net_add_node pm_Net_add_node an_Net_add_node cd_Net_add_node ct_Net_add_node), sl_Net_add_node⟩)
    (c_Net_add_node : PySem.W.codeIn K cd_Net_add_node "Net.add_node" = true)
    (k_Net_add_node : PySem.W.keepIn K (.ref f_Net_add_node) = true)
    (a_Net_add_formula : PySem.W.findIn K (.ref C_Net) "add_formula" = some (some (.ref f_Net_add_formula)))
    (i_Net_add_formula : PySem.W.isFn K (.ref f_Net_add_formula) = true)
    (l_Net_add_formula : K.lookup f_Net_add_formula = some ⟨oc_Net_add_formula, od_Net_add_formula, .func (PySem.W.fnOf "add_formula" "Net.add_formula" (defArgs s_Net_add_formula) (defBody s_Net_add_formula) (defScope s_Net_add_formula) .none kV_Net_add_formula dc_Net_add_formula pm_Net_add_formula an_Net_add_formula cd_Net_add_formula ct_Net_add_formula), sl_Net_add_formula⟩)
    (c_Net_add_formula : PySem.W.codeIn K cd_Net_add_formula "Net.add_formula" = true)
    (k_Net_add_formula : PySem.W.keepIn K (.ref f_Net_add_formula) = true)
    (a_Net_leader : PySem.W.findIn K (.ref C_Net) "leader" = some (some (.ref f_Net_leader)))
    (i_Net_leader : PySem.W.isFn K (.ref f_Net_leader) = true)
    (l_Net_leader : K.lookup f_Net_leader = some ⟨oc_Net_leader, od_Net_leader, .func (PySem.W.fnOf "leader" "Net.leader" (defArgs s_Net_leader) (defBody s_Net_leader) (defScope s_Net_leader) .none kV_Net_leader dc_Net_leader pm_Net_leader an_Net_leader cd_Net_leader ct_Net_leader), sl_Net_leader⟩)
    (c_Net_leader : PySem.W.codeIn K cd_Net_leader "Net.leader" = true)
    (k_Net_leader : PySem.W.keepIn K (.ref f_Net_leader) = true)
    (a_Net_make_same : PySem.W.findIn K (.ref C_Net) "make_same" = some (some (.ref f_Net_make_same)))
    (i_Net_make_same : PySem.W.isFn K (.ref f_Net_make_same) = true)
    (l_Net_make_same : K.lookup f_Net_make_same = some ⟨oc_Net_make_same, od_Net_make_same, .func (PySem.W.fnOf "make_same" "Net.make_same" (defArgs s_Net_make_same) (defBody s_Net_make_same) (defScope s_Net_make_same) .none kV_Net_make_same dc_Net_make_same pm_Net_make_same an_Net_make_same cd_Net_make_same ct_Net_make_same), sl_Net_make_same⟩)
    (c_Net_make_same : PySem.W.codeIn K cd_Net_make_same "Net.make_same" = true)
    (k_Net_make_same : PySem.W.keepIn K (.ref f_Net_make_same) = true)
    (a_Net_formula_of : PySem.W.findIn K (.ref C_Net) "formula_of" = some (some (.ref f_Net_formula_of)))
    (i_Net_formula_of : PySem.W.isFn K (.ref f_Net_formula_of) = true)
    (l_Net_formula_of : K.lookup f_Net_formula_of = some ⟨oc_Net_formula_of, od_Net_formula_of, .func (PySem.W.fnOf "formula_of" "Net.formula_of" (defArgs s_Net_formula_of) (defBody s_Net_formula_of) (defScope s_Net_formula_of) .none kV_Net_formula_of dc_Net_formula_of pm_Net_formula_of an_Net_formula_of cd_Net_formula_of ct_Net_formula_of), sl_Net_formula_of⟩)
    (c_Net_formula_of : PySem.W.codeIn K cd_Net_formula_of "Net.formula_of" = true)
    (k_Net_formula_of : PySem.W.keepIn K (.ref f_Net_formula_of) = true)
    (a_detached : PySem.W.nsIn K mainGlobals "detached" = some (some (.ref f_detached)))
    (l_detached : K.lookup f_detached = some ⟨oc_detached, od_detached, .func (PySem.W.fnOf "detached" "detached" (defArgs s_detached) (defBody s_detached) (defScope s_detached) .none kV_detached dc_detached pm_detached an_detached cd_detached ct_detached), sl_detached⟩)
    (c_detached : PySem.W.codeIn K cd_detached "detached" = true)
    (k_detached : PySem.W.keepIn K (.ref f_detached) = true)
    (a_Held___init__ : PySem.W.findIn K (.ref C_Held) "__init__" = some (some (.ref f_Held___init__)))
    (i_Held___init__ : PySem.W.isFn K (.ref f_Held___init__) = true)
    (l_Held___init__ : K.lookup f_Held___init__ = some ⟨oc_Held___init__, od_Held___init__, .func (PySem.W.fnOf "__init__" "Held.__init__" (defArgs s_Held_init) (defBody s_Held_init) (defScope s_Held_init) .none kV_Held___init__ dc_Held___init__ pm_Held___init__ an_Held___init__ cd_Held___init__ ct_Held___init__), sl_Held___init__⟩)
    (c_Held___init__ : PySem.W.codeIn K cd_Held___init__ "Held.__init__" = true)
    (k_Held___init__ : PySem.W.keepIn K (.ref f_Held___init__) = true)
    (a_Held_axiom_count : PySem.W.findIn K (.ref C_Held) "axiom_count" = some (some (.ref f_Held_axiom_count)))
    (i_Held_axiom_count : PySem.W.isFn K (.ref f_Held_axiom_count) = true)
    (l_Held_axiom_count : K.lookup f_Held_axiom_count = some ⟨oc_Held_axiom_count, od_Held_axiom_count, .func (PySem.W.fnOf "axiom_count" "Held.axiom_count" (defArgs s_Held_axiom_count) (defBody s_Held_axiom_count) (defScope s_Held_axiom_count) .none kV_Held_axiom_count dc_Held_axiom_count pm_Held_axiom_count an_Held_axiom_count cd_Held_axiom_count ct_Held_axiom_count), sl_Held_axiom_count⟩)
    (c_Held_axiom_count : PySem.W.codeIn K cd_Held_axiom_count "Held.axiom_count" = true)
    (k_Held_axiom_count : PySem.W.keepIn K (.ref f_Held_axiom_count) = true)
    (a_Held_add_axiom : PySem.W.findIn K (.ref C_Held) "add_axiom" = some (some (.ref f_Held_add_axiom)))
    (i_Held_add_axiom : PySem.W.isFn K (.ref f_Held_add_axiom) = true)
    (l_Held_add_axiom : K.lookup f_Held_add_axiom = some ⟨oc_Held_add_axiom, od_Held_add_axiom, .func (PySem.W.fnOf "add_axiom" "Held.add_axiom" (defArgs s_Held_add_axiom) (defBody s_Held_add_axiom) (defScope s_Held_add_axiom) .none kV_Held_add_axiom dc_Held_add_axiom pm_Held_add_axiom an_Held_add_axiom cd_Held_add_axiom ct_Held_add_axiom), sl_Held_add_axiom⟩)
    (c_Held_add_axiom : PySem.W.codeIn K cd_Held_add_axiom "Held.add_axiom" = true)
    (k_Held_add_axiom : PySem.W.keepIn K (.ref f_Held_add_axiom) = true)
    (a_Held_add_row : PySem.W.findIn K (.ref C_Held) "add_row" = some (some (.ref f_Held_add_row)))
    (i_Held_add_row : PySem.W.isFn K (.ref f_Held_add_row) = true)
    (l_Held_add_row : K.lookup f_Held_add_row = some ⟨oc_Held_add_row, od_Held_add_row, .func (PySem.W.fnOf "add_row" "Held.add_row" (defArgs s_Held_add_row) (defBody s_Held_add_row) (defScope s_Held_add_row) .none kV_Held_add_row dc_Held_add_row pm_Held_add_row an_Held_add_row cd_Held_add_row ct_Held_add_row), sl_Held_add_row⟩)
    (c_Held_add_row : PySem.W.codeIn K cd_Held_add_row "Held.add_row" = true)
    (k_Held_add_row : PySem.W.keepIn K (.ref f_Held_add_row) = true)
    (a_one_form : PySem.W.nsIn K mainGlobals "one_form" = some (some (.ref f_one_form)))
    (l_one_form : K.lookup f_one_form = some ⟨oc_one_form, od_one_form, .func (PySem.W.fnOf "one_form" "one_form" (defArgs s_one_form) (defBody s_one_form) (defScope s_one_form) .none kV_one_form dc_one_form pm_one_form an_one_form cd_one_form ct_one_form), sl_one_form⟩)
    (c_one_form : PySem.W.codeIn K cd_one_form "one_form" = true)
    (k_one_form : PySem.W.keepIn K (.ref f_one_form) = true)
    (a_tree_sizes : PySem.W.nsIn K mainGlobals "tree_sizes" = some (some (.ref f_tree_sizes)))
    (l_tree_sizes : K.lookup f_tree_sizes = some ⟨oc_tree_sizes, od_tree_sizes, .func (PySem.W.fnOf "tree_sizes" "tree_sizes" (defArgs s_tree_sizes) (defBody s_tree_sizes) (defScope s_tree_sizes) .none kV_tree_sizes dc_tree_sizes pm_tree_sizes an_tree_sizes cd_tree_sizes ct_tree_sizes), sl_tree_sizes⟩)
    (c_tree_sizes : PySem.W.codeIn K cd_tree_sizes "tree_sizes" = true)
    (k_tree_sizes : PySem.W.keepIn K (.ref f_tree_sizes) = true)
    (a_items_hung_on : PySem.W.nsIn K mainGlobals "items_hung_on" = some (some (.ref f_items_hung_on)))
    (l_items_hung_on : K.lookup f_items_hung_on = some ⟨oc_items_hung_on, od_items_hung_on, .func (PySem.W.fnOf "items_hung_on" "items_hung_on" (defArgs s_items_hung_on) (defBody s_items_hung_on) (defScope s_items_hung_on) .none kV_items_hung_on dc_items_hung_on pm_items_hung_on an_items_hung_on cd_items_hung_on ct_items_hung_on), sl_items_hung_on⟩)
    (c_items_hung_on : PySem.W.codeIn K cd_items_hung_on "items_hung_on" = true)
    (k_items_hung_on : PySem.W.keepIn K (.ref f_items_hung_on) = true)
    (a_characters : PySem.W.nsIn K mainGlobals "characters" = some (some (.ref f_characters)))
    (l_characters : K.lookup f_characters = some ⟨oc_characters, od_characters, .func (PySem.W.fnOf "characters" "characters" (defArgs s_characters) (defBody s_characters) (defScope s_characters) .none kV_characters dc_characters pm_characters an_characters cd_characters ct_characters), sl_characters⟩)
    (c_characters : PySem.W.codeIn K cd_characters "characters" = true)
    (k_characters : PySem.W.keepIn K (.ref f_characters) = true)
    (a_all_tokens : PySem.W.nsIn K mainGlobals "all_tokens" = some (some (.ref f_all_tokens)))
    (l_all_tokens : K.lookup f_all_tokens = some ⟨oc_all_tokens, od_all_tokens, .func (PySem.W.fnOf "all_tokens" "all_tokens" (defArgs s_all_tokens) (defBody s_all_tokens) (defScope s_all_tokens) .none kV_all_tokens dc_all_tokens pm_all_tokens an_all_tokens cd_all_tokens ct_all_tokens), sl_all_tokens⟩)
    (c_all_tokens : PySem.W.codeIn K cd_all_tokens "all_tokens" = true)
    (k_all_tokens : PySem.W.keepIn K (.ref f_all_tokens) = true)
    (a_after_blanks : PySem.W.nsIn K mainGlobals "after_blanks" = some (some (.ref f_after_blanks)))
    (l_after_blanks : K.lookup f_after_blanks = some ⟨oc_after_blanks, od_after_blanks, .func (PySem.W.fnOf "after_blanks" "after_blanks" (defArgs s_after_blanks) (defBody s_after_blanks) (defScope s_after_blanks) .none kV_after_blanks dc_after_blanks pm_after_blanks an_after_blanks cd_after_blanks ct_after_blanks), sl_after_blanks⟩)
    (c_after_blanks : PySem.W.codeIn K cd_after_blanks "after_blanks" = true)
    (k_after_blanks : PySem.W.keepIn K (.ref f_after_blanks) = true)
    (a_remark_end : PySem.W.nsIn K mainGlobals "remark_end" = some (some (.ref f_remark_end)))
    (l_remark_end : K.lookup f_remark_end = some ⟨oc_remark_end, od_remark_end, .func (PySem.W.fnOf "remark_end" "remark_end" (defArgs s_remark_end) (defBody s_remark_end) (defScope s_remark_end) .none kV_remark_end dc_remark_end pm_remark_end an_remark_end cd_remark_end ct_remark_end), sl_remark_end⟩)
    (c_remark_end : PySem.W.codeIn K cd_remark_end "remark_end" = true)
    (k_remark_end : PySem.W.keepIn K (.ref f_remark_end) = true)
    (a_token_end : PySem.W.nsIn K mainGlobals "token_end" = some (some (.ref f_token_end)))
    (l_token_end : K.lookup f_token_end = some ⟨oc_token_end, od_token_end, .func (PySem.W.fnOf "token_end" "token_end" (defArgs s_token_end) (defBody s_token_end) (defScope s_token_end) .none kV_token_end dc_token_end pm_token_end an_token_end cd_token_end ct_token_end), sl_token_end⟩)
    (c_token_end : PySem.W.codeIn K cd_token_end "token_end" = true)
    (k_token_end : PySem.W.keepIn K (.ref f_token_end) = true)
    (a_run_end : PySem.W.nsIn K mainGlobals "run_end" = some (some (.ref f_run_end)))
    (l_run_end : K.lookup f_run_end = some ⟨oc_run_end, od_run_end, .func (PySem.W.fnOf "run_end" "run_end" (defArgs s_run_end) (defBody s_run_end) (defScope s_run_end) .none kV_run_end dc_run_end pm_run_end an_run_end cd_run_end ct_run_end), sl_run_end⟩)
    (c_run_end : PySem.W.codeIn K cd_run_end "run_end" = true)
    (k_run_end : PySem.W.keepIn K (.ref f_run_end) = true)
    (a_is_number : PySem.W.nsIn K mainGlobals "is_number" = some (some (.ref f_is_number)))
    (l_is_number : K.lookup f_is_number = some ⟨oc_is_number, od_is_number, .func (PySem.W.fnOf "is_number" "is_number" (defArgs s_is_number) (defBody s_is_number) (defScope s_is_number) .none kV_is_number dc_is_number pm_is_number an_is_number cd_is_number ct_is_number), sl_is_number⟩)
    (c_is_number : PySem.W.codeIn K cd_is_number "is_number" = true)
    (k_is_number : PySem.W.keepIn K (.ref f_is_number) = true)
    (a_is_name : PySem.W.nsIn K mainGlobals "is_name" = some (some (.ref f_is_name)))
    (l_is_name : K.lookup f_is_name = some ⟨oc_is_name, od_is_name, .func (PySem.W.fnOf "is_name" "is_name" (defArgs s_is_name) (defBody s_is_name) (defScope s_is_name) .none kV_is_name dc_is_name pm_is_name an_is_name cd_is_name ct_is_name), sl_is_name⟩)
    (c_is_name : PySem.W.codeIn K cd_is_name "is_name" = true)
    (k_is_name : PySem.W.keepIn K (.ref f_is_name) = true)
    (a_Cursor___init__ : PySem.W.findIn K (.ref C_Cursor) "__init__" = some (some (.ref f_Cursor___init__)))
    (i_Cursor___init__ : PySem.W.isFn K (.ref f_Cursor___init__) = true)
    (l_Cursor___init__ : K.lookup f_Cursor___init__ = some ⟨oc_Cursor___init__, od_Cursor___init__, .func (PySem.W.fnOf "__init__" "Cursor.__init__" (defArgs s_Cursor_init) (defBody s_Cursor_init) (defScope s_Cursor_init) .none kV_Cursor___init__ dc_Cursor___init__ pm_Cursor___init__ an_Cursor___init__ cd_Cursor___init__ ct_Cursor___init__), sl_Cursor___init__⟩)
    (c_Cursor___init__ : PySem.W.codeIn K cd_Cursor___init__ "Cursor.__init__" = true)
    (k_Cursor___init__ : PySem.W.keepIn K (.ref f_Cursor___init__) = true)
    (a_Cursor_word : PySem.W.findIn K (.ref C_Cursor) "word" = some (some (.ref f_Cursor_word)))
    (i_Cursor_word : PySem.W.isFn K (.ref f_Cursor_word) = true)
    (l_Cursor_word : K.lookup f_Cursor_word = some ⟨oc_Cursor_word, od_Cursor_word, .func (PySem.W.fnOf "word" "Cursor.word" (defArgs s_Cursor_word) (defBody s_Cursor_word) (defScope s_Cursor_word) .none kV_Cursor_word dc_Cursor_word pm_Cursor_word an_Cursor_word cd_Cursor_word ct_Cursor_word), sl_Cursor_word⟩)
    (c_Cursor_word : PySem.W.codeIn K cd_Cursor_word "Cursor.word" = true)
    (k_Cursor_word : PySem.W.keepIn K (.ref f_Cursor_word) = true)
    (a_Cursor_here : PySem.W.findIn K (.ref C_Cursor) "here" = some (some (.ref f_Cursor_here)))
    (i_Cursor_here : PySem.W.isFn K (.ref f_Cursor_here) = true)
    (l_Cursor_here : K.lookup f_Cursor_here = some ⟨oc_Cursor_here, od_Cursor_here, .func (PySem.W.fnOf "here" "Cursor.here" (defArgs s_Cursor_here) (defBody s_Cursor_here) (defScope s_Cursor_here) .none kV_Cursor_here dc_Cursor_here pm_Cursor_here an_Cursor_here cd_Cursor_here ct_Cursor_here), sl_Cursor_here⟩)
    (c_Cursor_here : PySem.W.codeIn K cd_Cursor_here "Cursor.here" = true)
    (k_Cursor_here : PySem.W.keepIn K (.ref f_Cursor_here) = true)
    (a_Cursor_go_on : PySem.W.findIn K (.ref C_Cursor) "go_on" = some (some (.ref f_Cursor_go_on)))
    (i_Cursor_go_on : PySem.W.isFn K (.ref f_Cursor_go_on) = true)
    (l_Cursor_go_on : K.lookup f_Cursor_go_on = some ⟨oc_Cursor_go_on, od_Cursor_go_on, .func (PySem.W.fnOf "go_on" "Cursor.go_on" (defArgs s_Cursor_go_on) (defBody s_Cursor_go_on) (defScope s_Cursor_go_on) .none kV_Cursor_go_on dc_Cursor_go_on pm_Cursor_go_on an_Cursor_go_on cd_Cursor_go_on ct_Cursor_go_on), sl_Cursor_go_on⟩)
    (c_Cursor_go_on : PySem.W.codeIn K cd_Cursor_go_on "Cursor.go_on" = true)
    (k_Cursor_go_on : PySem.W.keepIn K (.ref f_Cursor_go_on) = true)
    (a_Cursor_expect : PySem.W.findIn K (.ref C_Cursor) "expect" = some (some (.ref f_Cursor_expect)))
    (i_Cursor_expect : PySem.W.isFn K (.ref f_Cursor_expect) = true)
    (l_Cursor_expect : K.lookup f_Cursor_expect = some ⟨oc_Cursor_expect, od_Cursor_expect, .func (PySem.W.fnOf "expect" "Cursor.expect" (defArgs s_Cursor_expect) (defBody s_Cursor_expect) (defScope s_Cursor_expect) .none kV_Cursor_expect dc_Cursor_expect pm_Cursor_expect an_Cursor_expect cd_Cursor_expect ct_Cursor_expect), sl_Cursor_expect⟩)
    (c_Cursor_expect : PySem.W.codeIn K cd_Cursor_expect "Cursor.expect" = true)
    (k_Cursor_expect : PySem.W.keepIn K (.ref f_Cursor_expect) = true)
    (a_Cursor_name : PySem.W.findIn K (.ref C_Cursor) "name" = some (some (.ref f_Cursor_name)))
    (i_Cursor_name : PySem.W.isFn K (.ref f_Cursor_name) = true)
    (l_Cursor_name : K.lookup f_Cursor_name = some ⟨oc_Cursor_name, od_Cursor_name, .func (PySem.W.fnOf "name" "Cursor.name" (defArgs s_Cursor_name) (defBody s_Cursor_name) (defScope s_Cursor_name) .none kV_Cursor_name dc_Cursor_name pm_Cursor_name an_Cursor_name cd_Cursor_name ct_Cursor_name), sl_Cursor_name⟩)
    (c_Cursor_name : PySem.W.codeIn K cd_Cursor_name "Cursor.name" = true)
    (k_Cursor_name : PySem.W.keepIn K (.ref f_Cursor_name) = true)
    (a_Draft___init__ : PySem.W.findIn K (.ref C_Draft) "__init__" = some (some (.ref f_Draft___init__)))
    (i_Draft___init__ : PySem.W.isFn K (.ref f_Draft___init__) = true)
    (l_Draft___init__ : K.lookup f_Draft___init__ = some ⟨oc_Draft___init__, od_Draft___init__, .func (PySem.W.fnOf "__init__" "Draft.__init__" (defArgs s_Draft_init) (defBody s_Draft_init) (defScope s_Draft_init) .none kV_Draft___init__ dc_Draft___init__ pm_Draft___init__ an_Draft___init__ cd_Draft___init__ ct_Draft___init__), sl_Draft___init__⟩)
    (c_Draft___init__ : PySem.W.codeIn K cd_Draft___init__ "Draft.__init__" = true)
    (k_Draft___init__ : PySem.W.keepIn K (.ref f_Draft___init__) = true)
    (a_Draft_is_whole : PySem.W.findIn K (.ref C_Draft) "is_whole" = some (some (.ref f_Draft_is_whole)))
    (i_Draft_is_whole : PySem.W.isFn K (.ref f_Draft_is_whole) = true)
    (l_Draft_is_whole : K.lookup f_Draft_is_whole = some ⟨oc_Draft_is_whole, od_Draft_is_whole, .func (PySem.W.fnOf "is_whole" "Draft.is_whole" (defArgs s_Draft_is_whole) (defBody s_Draft_is_whole) (defScope s_Draft_is_whole) .none kV_Draft_is_whole dc_Draft_is_whole pm_Draft_is_whole an_Draft_is_whole cd_Draft_is_whole ct_Draft_is_whole), sl_Draft_is_whole⟩)
    (c_Draft_is_whole : PySem.W.codeIn K cd_Draft_is_whole "Draft.is_whole" = true)
    (k_Draft_is_whole : PySem.W.keepIn K (.ref f_Draft_is_whole) = true)
    (a_Draft_takes : PySem.W.findIn K (.ref C_Draft) "takes" = some (some (.ref f_Draft_takes)))
    (i_Draft_takes : PySem.W.isFn K (.ref f_Draft_takes) = true)
    (l_Draft_takes : K.lookup f_Draft_takes = some ⟨oc_Draft_takes, od_Draft_takes, .func (PySem.W.fnOf "takes" "Draft.takes" (defArgs s_Draft_takes) (defBody s_Draft_takes) (defScope s_Draft_takes) .none kV_Draft_takes dc_Draft_takes pm_Draft_takes an_Draft_takes cd_Draft_takes ct_Draft_takes), sl_Draft_takes⟩)
    (c_Draft_takes : PySem.W.codeIn K cd_Draft_takes "Draft.takes" = true)
    (k_Draft_takes : PySem.W.keepIn K (.ref f_Draft_takes) = true)
    (a_Draft_put : PySem.W.findIn K (.ref C_Draft) "put" = some (some (.ref f_Draft_put)))
    (i_Draft_put : PySem.W.isFn K (.ref f_Draft_put) = true)
    (l_Draft_put : K.lookup f_Draft_put = some ⟨oc_Draft_put, od_Draft_put, .func (PySem.W.fnOf "put" "Draft.put" (defArgs s_Draft_put) (defBody s_Draft_put) (defScope s_Draft_put) .none kV_Draft_put dc_Draft_put pm_Draft_put an_Draft_put cd_Draft_put ct_Draft_put), sl_Draft_put⟩)
    (c_Draft_put : PySem.W.codeIn K cd_Draft_put "Draft.put" = true)
    (k_Draft_put : PySem.W.keepIn K (.ref f_Draft_put) = true)
    (a_Draft_put_bracket_end : PySem.W.findIn K (.ref C_Draft) "put_bracket_end" = some (some (.ref f_Draft_put_bracket_end)))
    (i_Draft_put_bracket_end : PySem.W.isFn K (.ref f_Draft_put_bracket_end) = true)
    (l_Draft_put_bracket_end : K.lookup f_Draft_put_bracket_end = some ⟨oc_Draft_put_bracket_end, od_Draft_put_bracket_end, .func (PySem.W.fnOf "put_bracket_end" "Draft.put_bracket_end" (defArgs s_bracket_end) (defBody s_bracket_end) (defScope s_bracket_end) .none kV_Draft_put_bracket_end dc_Draft_put_bracket_end pm_Draft_put_bracket_end an_Draft_put_bracket_end cd_Draft_put_bracket_end ct_Draft_put_bracket_end), sl_Draft_put_bracket_end⟩)
    (c_Draft_put_bracket_end : PySem.W.codeIn K cd_Draft_put_bracket_end "Draft.put_bracket_end" = true)
    (k_Draft_put_bracket_end : PySem.W.keepIn K (.ref f_Draft_put_bracket_end) = true)
    (a_Draft_end_part : PySem.W.findIn K (.ref C_Draft) "end_part" = some (some (.ref f_Draft_end_part)))
    (i_Draft_end_part : PySem.W.isFn K (.ref f_Draft_end_part) = true)
    (l_Draft_end_part : K.lookup f_Draft_end_part = some ⟨oc_Draft_end_part, od_Draft_end_part, .func (PySem.W.fnOf "end_part" "Draft.end_part" (defArgs s_Draft_end_part) (defBody s_Draft_end_part) (defScope s_Draft_end_part) .none kV_Draft_end_part dc_Draft_end_part pm_Draft_end_part an_Draft_end_part cd_Draft_end_part ct_Draft_end_part), sl_Draft_end_part⟩)
    (c_Draft_end_part : PySem.W.codeIn K cd_Draft_end_part "Draft.end_part" = true)
    (k_Draft_end_part : PySem.W.keepIn K (.ref f_Draft_end_part) = true)
    (a_read_formula : PySem.W.nsIn K mainGlobals "read_formula" = some (some (.ref f_read_formula)))
    (l_read_formula : K.lookup f_read_formula = some ⟨oc_read_formula, od_read_formula, .func (PySem.W.fnOf "read_formula" "read_formula" (defArgs s_read_formula) (defBody s_read_formula) (defScope s_read_formula) .none kV_read_formula dc_read_formula pm_read_formula an_read_formula cd_read_formula ct_read_formula), sl_read_formula⟩)
    (c_read_formula : PySem.W.codeIn K cd_read_formula "read_formula" = true)
    (k_read_formula : PySem.W.keepIn K (.ref f_read_formula) = true)
    (a_read_text : PySem.W.nsIn K mainGlobals "read_text" = some (some (.ref f_read_text)))
    (l_read_text : K.lookup f_read_text = some ⟨oc_read_text, od_read_text, .func (PySem.W.fnOf "read_text" "read_text" (defArgs s_read_text) (defBody s_read_text) (defScope s_read_text) .none kV_read_text dc_read_text pm_read_text an_read_text cd_read_text ct_read_text), sl_read_text⟩)
    (c_read_text : PySem.W.codeIn K cd_read_text "read_text" = true)
    (k_read_text : PySem.W.keepIn K (.ref f_read_text) = true)
    (a_read_axioms : PySem.W.nsIn K mainGlobals "read_axioms" = some (some (.ref f_read_axioms)))
    (l_read_axioms : K.lookup f_read_axioms = some ⟨oc_read_axioms, od_read_axioms, .func (PySem.W.fnOf "read_axioms" "read_axioms" (defArgs s_read_axioms) (defBody s_read_axioms) (defScope s_read_axioms) .none kV_read_axioms dc_read_axioms pm_read_axioms an_read_axioms cd_read_axioms ct_read_axioms), sl_read_axioms⟩)
    (c_read_axioms : PySem.W.codeIn K cd_read_axioms "read_axioms" = true)
    (k_read_axioms : PySem.W.keepIn K (.ref f_read_axioms) = true)
    (a_read_axiom : PySem.W.nsIn K mainGlobals "read_axiom" = some (some (.ref f_read_axiom)))
    (l_read_axiom : K.lookup f_read_axiom = some ⟨oc_read_axiom, od_read_axiom, .func (PySem.W.fnOf "read_axiom" "read_axiom" (defArgs s_read_axiom) (defBody s_read_axiom) (defScope s_read_axiom) .none kV_read_axiom dc_read_axiom pm_read_axiom an_read_axiom cd_read_axiom ct_read_axiom), sl_read_axiom⟩)
    (c_read_axiom : PySem.W.codeIn K cd_read_axiom "read_axiom" = true)
    (k_read_axiom : PySem.W.keepIn K (.ref f_read_axiom) = true)
    (a_read_rows : PySem.W.nsIn K mainGlobals "read_rows" = some (some (.ref f_read_rows)))
    (l_read_rows : K.lookup f_read_rows = some ⟨oc_read_rows, od_read_rows, .func (PySem.W.fnOf "read_rows" "read_rows" (defArgs s_read_rows) (defBody s_read_rows) (defScope s_read_rows) .none kV_read_rows dc_read_rows pm_read_rows an_read_rows cd_read_rows ct_read_rows), sl_read_rows⟩)
    (c_read_rows : PySem.W.codeIn K cd_read_rows "read_rows" = true)
    (k_read_rows : PySem.W.keepIn K (.ref f_read_rows) = true)
    (a_read_goals : PySem.W.nsIn K mainGlobals "read_goals" = some (some (.ref f_read_goals)))
    (l_read_goals : K.lookup f_read_goals = some ⟨oc_read_goals, od_read_goals, .func (PySem.W.fnOf "read_goals" "read_goals" (defArgs s_read_goals) (defBody s_read_goals) (defScope s_read_goals) .none kV_read_goals dc_read_goals pm_read_goals an_read_goals cd_read_goals ct_read_goals), sl_read_goals⟩)
    (c_read_goals : PySem.W.codeIn K cd_read_goals "read_goals" = true)
    (k_read_goals : PySem.W.keepIn K (.ref f_read_goals) = true)
    (a_check_room : PySem.W.nsIn K mainGlobals "check_room" = some (some (.ref f_check_room)))
    (l_check_room : K.lookup f_check_room = some ⟨oc_check_room, od_check_room, .func (PySem.W.fnOf "check_room" "check_room" (defArgs s_check_room) (defBody s_check_room) (defScope s_check_room) .none kV_check_room dc_check_room pm_check_room an_check_room cd_check_room ct_check_room), sl_check_room⟩)
    (c_check_room : PySem.W.codeIn K cd_check_room "check_room" = true)
    (k_check_room : PySem.W.keepIn K (.ref f_check_room) = true)
    (a_read_new_name : PySem.W.nsIn K mainGlobals "read_new_name" = some (some (.ref f_read_new_name)))
    (l_read_new_name : K.lookup f_read_new_name = some ⟨oc_read_new_name, od_read_new_name, .func (PySem.W.fnOf "read_new_name" "read_new_name" (defArgs s_read_new_name) (defBody s_read_new_name) (defScope s_read_new_name) .none kV_read_new_name dc_read_new_name pm_read_new_name an_read_new_name cd_read_new_name ct_read_new_name), sl_read_new_name⟩)
    (c_read_new_name : PySem.W.codeIn K cd_read_new_name "read_new_name" = true)
    (k_read_new_name : PySem.W.keepIn K (.ref f_read_new_name) = true)
    (a_read_item : PySem.W.nsIn K mainGlobals "read_item" = some (some (.ref f_read_item)))
    (l_read_item : K.lookup f_read_item = some ⟨oc_read_item, od_read_item, .func (PySem.W.fnOf "read_item" "read_item" (defArgs s_read_item) (defBody s_read_item) (defScope s_read_item) .none kV_read_item dc_read_item pm_read_item an_read_item cd_read_item ct_read_item), sl_read_item⟩)
    (c_read_item : PySem.W.codeIn K cd_read_item "read_item" = true)
    (k_read_item : PySem.W.keepIn K (.ref f_read_item) = true)
    (a_Desk___init__ : PySem.W.findIn K (.ref C_Desk) "__init__" = some (some (.ref f_Desk___init__)))
    (i_Desk___init__ : PySem.W.isFn K (.ref f_Desk___init__) = true)
    (l_Desk___init__ : K.lookup f_Desk___init__ = some ⟨oc_Desk___init__, od_Desk___init__, .func (PySem.W.fnOf "__init__" "Desk.__init__" (defArgs s_Desk_init) (defBody s_Desk_init) (defScope s_Desk_init) .none kV_Desk___init__ dc_Desk___init__ pm_Desk___init__ an_Desk___init__ cd_Desk___init__ ct_Desk___init__), sl_Desk___init__⟩)
    (c_Desk___init__ : PySem.W.codeIn K cd_Desk___init__ "Desk.__init__" = true)
    (k_Desk___init__ : PySem.W.keepIn K (.ref f_Desk___init__) = true)
    (a_Desk_answer : PySem.W.findIn K (.ref C_Desk) "answer" = some (some (.ref f_Desk_answer)))
    (i_Desk_answer : PySem.W.isFn K (.ref f_Desk_answer) = true)
    (l_Desk_answer : K.lookup f_Desk_answer = some ⟨oc_Desk_answer, od_Desk_answer, .func (PySem.W.fnOf "answer" "Desk.answer" (defArgs s_Desk_answer) (defBody s_Desk_answer) (defScope s_Desk_answer) .none kV_Desk_answer dc_Desk_answer pm_Desk_answer an_Desk_answer cd_Desk_answer ct_Desk_answer), sl_Desk_answer⟩)
    (c_Desk_answer : PySem.W.codeIn K cd_Desk_answer "Desk.answer" = true)
    (k_Desk_answer : PySem.W.keepIn K (.ref f_Desk_answer) = true)
    (a_Desk_load : PySem.W.findIn K (.ref C_Desk) "load" = some (some (.ref f_Desk_load)))
    (i_Desk_load : PySem.W.isFn K (.ref f_Desk_load) = true)
    (l_Desk_load : K.lookup f_Desk_load = some ⟨oc_Desk_load, od_Desk_load, .func (PySem.W.fnOf "load" "Desk.load" (defArgs s_Desk_load) (defBody s_Desk_load) (defScope s_Desk_load) .none kV_Desk_load dc_Desk_load pm_Desk_load an_Desk_load cd_Desk_load ct_Desk_load), sl_Desk_load⟩)
    (c_Desk_load : PySem.W.codeIn K cd_Desk_load "Desk.load" = true)
    (k_Desk_load : PySem.W.keepIn K (.ref f_Desk_load) = true)
    (a_has_number : PySem.W.nsIn K mainGlobals "has_number" = some (some (.ref f_has_number)))
    (l_has_number : K.lookup f_has_number = some ⟨oc_has_number, od_has_number, .func (PySem.W.fnOf "has_number" "has_number" (defArgs s_has_number) (defBody s_has_number) (defScope s_has_number) .none kV_has_number dc_has_number pm_has_number an_has_number cd_has_number ct_has_number), sl_has_number⟩)
    (c_has_number : PySem.W.codeIn K cd_has_number "has_number" = true)
    (k_has_number : PySem.W.keepIn K (.ref f_has_number) = true)
    (a_shown : PySem.W.nsIn K mainGlobals "shown" = some (some (.ref f_shown)))
    (l_shown : K.lookup f_shown = some ⟨oc_shown, od_shown, .func (PySem.W.fnOf "shown" "shown" (defArgs s_shown) (defBody s_shown) (defScope s_shown) .none kV_shown dc_shown pm_shown an_shown cd_shown ct_shown), sl_shown⟩)
    (c_shown : PySem.W.codeIn K cd_shown "shown" = true)
    (k_shown : PySem.W.keepIn K (.ref f_shown) = true)
    (a_refused : PySem.W.nsIn K mainGlobals "refused" = some (some (.ref f_refused)))
    (l_refused : K.lookup f_refused = some ⟨oc_refused, od_refused, .func (PySem.W.fnOf "refused" "refused" (defArgs s_refused) (defBody s_refused) (defScope s_refused) .none kV_refused dc_refused pm_refused an_refused cd_refused ct_refused), sl_refused⟩)
    (c_refused : PySem.W.codeIn K cd_refused "refused" = true)
    (k_refused : PySem.W.keepIn K (.ref f_refused) = true)
    (a_formula : PySem.W.nsIn K mainGlobals "formula" = some (some (.ref f_formula)))
    (l_formula : K.lookup f_formula = some ⟨oc_formula, od_formula, .func (PySem.W.fnOf "formula" "formula" (defArgs s_formula) (defBody s_formula) (defScope s_formula) .none kV_formula dc_formula pm_formula an_formula cd_formula ct_formula), sl_formula⟩)
    (c_formula : PySem.W.codeIn K cd_formula "formula" = true)
    (k_formula : PySem.W.keepIn K (.ref f_formula) = true)
    (a_sizes : PySem.W.nsIn K mainGlobals "sizes" = some (some (.ref f_sizes)))
    (l_sizes : K.lookup f_sizes = some ⟨oc_sizes, od_sizes, .func (PySem.W.fnOf "sizes" "sizes" (defArgs s_sizes) (defBody s_sizes) (defScope s_sizes) .none kV_sizes dc_sizes pm_sizes an_sizes cd_sizes ct_sizes), sl_sizes⟩)
    (c_sizes : PySem.W.codeIn K cd_sizes "sizes" = true)
    (k_sizes : PySem.W.keepIn K (.ref f_sizes) = true)
    (a_is_proved : PySem.W.nsIn K mainGlobals "is_proved" = some (some (.ref f_is_proved)))
    (l_is_proved : K.lookup f_is_proved = some ⟨oc_is_proved, od_is_proved, .func (PySem.W.fnOf "is_proved" "is_proved" (defArgs s_is_proved) (defBody s_is_proved) (defScope s_is_proved) .none kV_is_proved dc_is_proved pm_is_proved an_is_proved cd_is_proved ct_is_proved), sl_is_proved⟩)
    (c_is_proved : PySem.W.codeIn K cd_is_proved "is_proved" = true)
    (k_is_proved : PySem.W.keepIn K (.ref f_is_proved) = true)
    (a_proves : PySem.W.nsIn K mainGlobals "proves" = some (some (.ref f_proves)))
    (l_proves : K.lookup f_proves = some ⟨oc_proves, od_proves, .func (PySem.W.fnOf "proves" "proves" (defArgs s_proves) (defBody s_proves) (defScope s_proves) .none kV_proves dc_proves pm_proves an_proves cd_proves ct_proves), sl_proves⟩)
    (c_proves : PySem.W.codeIn K cd_proves "proves" = true)
    (k_proves : PySem.W.keepIn K (.ref f_proves) = true)
    (a_detach : PySem.W.nsIn K mainGlobals "detach" = some (some (.ref f_detach)))
    (l_detach : K.lookup f_detach = some ⟨oc_detach, od_detach, .func (PySem.W.fnOf "detach" "detach" (defArgs s_detach) (defBody s_detach) (defScope s_detach) .none kV_detach dc_detach pm_detach an_detach cd_detach ct_detach), sl_detach⟩)
    (c_detach : PySem.W.codeIn K cd_detach "detach" = true)
    (k_detach : PySem.W.keepIn K (.ref f_detach) = true)
    (a_compare : PySem.W.nsIn K mainGlobals "compare" = some (some (.ref f_compare)))
    (l_compare : K.lookup f_compare = some ⟨oc_compare, od_compare, .func (PySem.W.fnOf "compare" "compare" (defArgs s_compare) (defBody s_compare) (defScope s_compare) .none kV_compare dc_compare pm_compare an_compare cd_compare ct_compare), sl_compare⟩)
    (c_compare : PySem.W.codeIn K cd_compare "compare" = true)
    (k_compare : PySem.W.keepIn K (.ref f_compare) = true)
    (a_needs : PySem.W.nsIn K mainGlobals "needs" = some (some (.ref f_needs)))
    (l_needs : K.lookup f_needs = some ⟨oc_needs, od_needs, .func (PySem.W.fnOf "needs" "needs" (defArgs s_needs) (defBody s_needs) (defScope s_needs) .none kV_needs dc_needs pm_needs an_needs cd_needs ct_needs), sl_needs⟩)
    (c_needs : PySem.W.codeIn K cd_needs "needs" = true)
    (k_needs : PySem.W.keepIn K (.ref f_needs) = true)
    (a_goals : PySem.W.nsIn K mainGlobals "goals" = some (some (.ref f_goals)))
    (l_goals : K.lookup f_goals = some ⟨oc_goals, od_goals, .func (PySem.W.fnOf "goals" "goals" (defArgs s_goals) (defBody s_goals) (defScope s_goals) .none kV_goals dc_goals pm_goals an_goals cd_goals ct_goals), sl_goals⟩)
    (c_goals : PySem.W.codeIn K cd_goals "goals" = true)
    (k_goals : PySem.W.keepIn K (.ref f_goals) = true)
    (a_first_proof : PySem.W.nsIn K mainGlobals "first_proof" = some (some (.ref f_first_proof)))
    (l_first_proof : K.lookup f_first_proof = some ⟨oc_first_proof, od_first_proof, .func (PySem.W.fnOf "first_proof" "first_proof" (defArgs s_first_proof) (defBody s_first_proof) (defScope s_first_proof) .none kV_first_proof dc_first_proof pm_first_proof an_first_proof cd_first_proof ct_first_proof), sl_first_proof⟩)
    (c_first_proof : PySem.W.codeIn K cd_first_proof "first_proof" = true)
    (k_first_proof : PySem.W.keepIn K (.ref f_first_proof) = true)
    (a_answers : PySem.W.nsIn K mainGlobals "answers" = some (some (.ref f_answers)))
    (l_answers : K.lookup f_answers = some ⟨oc_answers, od_answers, .func (PySem.W.fnOf "answers" "answers" (defArgs s_answers) (defBody s_answers) (defScope s_answers) .none kV_answers dc_answers pm_answers an_answers cd_answers ct_answers), sl_answers⟩)
    (c_answers : PySem.W.codeIn K cd_answers "answers" = true)
    (k_answers : PySem.W.keepIn K (.ref f_answers) = true)
    (xF : K.lookup C_Fault = some (PySem.excClassObj nmF qF C_Fault NF bsF PySem.ESX.exTail true snF subF abF colF ddF m0F m1F m2F m3F m5F "Exception.__new__"))
    (saF : PySem.W.findIn K (.ref C_Fault) "__setattr__" = some (some (.builtin "object.__setattr__")))
    (gaF : PySem.W.findIn K (.ref C_Fault) "__getattribute__" = some (some (.builtin "BaseException.__getattribute__")))
    (ggF : PySem.W.findIn K (.ref C_Fault) "__getattr__" = some none)
    (n_Fault_code : PySem.W.findIn K (.ref C_Fault) "code" = some none)
    (n_Fault_place : PySem.W.findIn K (.ref C_Fault) "place" = some none)
    (kcF : PySem.W.keepIn K (.ref C_Fault) = true)
    (exF : PySem.W.subIn K (.ref C_Fault) (.type "BaseException") = some true)
    (tyF : PySem.W.typeIn K (.ref C_Fault) = some (.type "type"))
    (hdF : PySem.W.hasDictIn K C_Fault = true)
    (icF : PySem.W.isClsIn K C_Fault = true)
    (scF : PySem.W.subIn K (.ref C_Fault) (.ref C_Fault) = some true)
    (lF : K.lookup f_Fault___init__ = some ⟨ocF, odF, .func (PySem.W.fnOf "__init__" "Fault.__init__" (PySem.FltX.iA p1 p2 p3) (PySem.FltX.iB q1 q2 q3 q4 q5 q6 q7 q8) PySem.FltX.iS .none .none dcF pmF anF cdF ctF), slF⟩)
    (cF : PySem.W.codeIn K cdF "Fault.__init__" = true)
    (pg_Net : PySem.W.plainGet K C_Net Str.empty = true)
    (hd_Net : PySem.W.hasDictIn K C_Net = true)
    (po_Net : PySem.W.plainOver K C_Net = true)
    (sa_Net : PySem.W.findIn K (.ref C_Net) "__setattr__" = some (some (.builtin "object.__setattr__")))
    (mk_Net : PySem.W.makesIn K C_Net = true)
    (kc_Net : PySem.W.keepIn K (.ref C_Net) = true)
    (n_Net_heads : PySem.W.findIn K (.ref C_Net) "heads" = some none)
    (n_Net_parts : PySem.W.findIn K (.ref C_Net) "parts" = some none)
    (n_Net_stands : PySem.W.findIn K (.ref C_Net) "stands" = some none)
    (pg_Held : PySem.W.plainGet K C_Held Str.empty = true)
    (hd_Held : PySem.W.hasDictIn K C_Held = true)
    (po_Held : PySem.W.plainOver K C_Held = true)
    (sa_Held : PySem.W.findIn K (.ref C_Held) "__setattr__" = some (some (.builtin "object.__setattr__")))
    (mk_Held : PySem.W.makesIn K C_Held = true)
    (kc_Held : PySem.W.keepIn K (.ref C_Held) = true)
    (n_Held_numbers : PySem.W.findIn K (.ref C_Held) "numbers" = some none)
    (n_Held_formulas : PySem.W.findIn K (.ref C_Held) "formulas" = some none)
    (n_Held_rows : PySem.W.findIn K (.ref C_Held) "rows" = some none)
    (n_Held_goals : PySem.W.findIn K (.ref C_Held) "goals" = some none)
    (pg_Cursor : PySem.W.plainGet K C_Cursor Str.empty = true)
    (hd_Cursor : PySem.W.hasDictIn K C_Cursor = true)
    (po_Cursor : PySem.W.plainOver K C_Cursor = true)
    (sa_Cursor : PySem.W.findIn K (.ref C_Cursor) "__setattr__" = some (some (.builtin "object.__setattr__")))
    (mk_Cursor : PySem.W.makesIn K C_Cursor = true)
    (kc_Cursor : PySem.W.keepIn K (.ref C_Cursor) = true)
    (n_Cursor_tokens : PySem.W.findIn K (.ref C_Cursor) "tokens" = some none)
    (n_Cursor_at : PySem.W.findIn K (.ref C_Cursor) "at" = some none)
    (pg_Draft : PySem.W.plainGet K C_Draft Str.empty = true)
    (hd_Draft : PySem.W.hasDictIn K C_Draft = true)
    (po_Draft : PySem.W.plainOver K C_Draft = true)
    (sa_Draft : PySem.W.findIn K (.ref C_Draft) "__setattr__" = some (some (.builtin "object.__setattr__")))
    (mk_Draft : PySem.W.makesIn K C_Draft = true)
    (kc_Draft : PySem.W.keepIn K (.ref C_Draft) = true)
    (n_Draft_signs : PySem.W.findIn K (.ref C_Draft) "signs" = some none)
    (n_Draft_unknowns : PySem.W.findIn K (.ref C_Draft) "unknowns" = some none)
    (n_Draft_around : PySem.W.findIn K (.ref C_Draft) "around" = some none)
    (n_Draft_brackets : PySem.W.findIn K (.ref C_Draft) "brackets" = some none)
    (n_Draft_ended : PySem.W.findIn K (.ref C_Draft) "ended" = some none)
    (n_Draft_begin : PySem.W.findIn K (.ref C_Draft) "begin" = some none)
    (pg_Desk : PySem.W.plainGet K C_Desk Str.empty = true)
    (hd_Desk : PySem.W.hasDictIn K C_Desk = true)
    (po_Desk : PySem.W.plainOver K C_Desk = true)
    (sa_Desk : PySem.W.findIn K (.ref C_Desk) "__setattr__" = some (some (.builtin "object.__setattr__")))
    (mk_Desk : PySem.W.makesIn K C_Desk = true)
    (kc_Desk : PySem.W.keepIn K (.ref C_Desk) = true)
    (n_Desk_held : PySem.W.findIn K (.ref C_Desk) "held" = some none)
    (v_IMPLIES : PySem.W.nsIn K mainGlobals "IMPLIES" = some (some (.int 0 t_IMPLIES)))
    (v_DENIES : PySem.W.nsIn K mainGlobals "DENIES" = some (some (.int 1 t_DENIES)))
    (v_FIRST_UNKNOWN : PySem.W.nsIn K mainGlobals "FIRST_UNKNOWN" = some (some (.int 2 t_FIRST_UNKNOWN)))
    (v_MOST_FITTED : PySem.W.nsIn K mainGlobals "MOST_FITTED" = some (some (.int 1000 t_MOST_FITTED)))
    (v_MOST_DETACHED : PySem.W.nsIn K mainGlobals "MOST_DETACHED" = some (some (.int 60 t_MOST_DETACHED)))
    (v_BLANKS : PySem.W.nsIn K mainGlobals "BLANKS" = some (some (.str (Str.ofString " \t\n") t_BLANKS)))
    (v_REMARK : PySem.W.nsIn K mainGlobals "REMARK" = some (some (.str (Str.ofString "#") t_REMARK)))
    (v_SIGNS : PySem.W.nsIn K mainGlobals "SIGNS" = some (some (.str (Str.ofString "(),:;>~") t_SIGNS)))
    (v_DIGITS : PySem.W.nsIn K mainGlobals "DIGITS" = some (some (.str (Str.ofString "0123456789") t_DIGITS)))
    (v_LETTERS : PySem.W.nsIn K mainGlobals "LETTERS" = some (some (.str (Str.ofString "abcdefghijklmnopqrstuvwxyzABCDEFGHIJKLMNOPQRSTUVWXYZ") t_LETTERS)))
    (v_STRANGE : PySem.W.nsIn K mainGlobals "STRANGE" = some (some (.str (Str.ofString "?") t_STRANGE)))
    (v_END : PySem.W.nsIn K mainGlobals "END" = some (some (.str (Str.ofString "") t_END)))
    (v_KEYWORDS : PySem.W.nsIn K mainGlobals "KEYWORDS" = some (some (.ref A_KEYWORDS)))
    (w_KEYWORDS : K.lookup A_KEYWORDS = some ⟨.type "tuple", dd_KEYWORDS, .seq #[.str (Str.ofString "axiom") t_KEYWORDS0, .str (Str.ofString "row") t_KEYWORDS1, .str (Str.ofString "goal") t_KEYWORDS2] nn_KEYWORDS, ss_KEYWORDS⟩)
    (v_LONGEST_NAME : PySem.W.nsIn K mainGlobals "LONGEST_NAME" = some (some (.int 16 t_LONGEST_NAME)))
    (v_GREATEST_NUMBER : PySem.W.nsIn K mainGlobals "GREATEST_NUMBER" = some (some (.int 1000000000 t_GREATEST_NUMBER)))
    (v_LONGEST_NUMBER : PySem.W.nsIn K mainGlobals "LONGEST_NUMBER" = some (some (.int 10 t_LONGEST_NUMBER)))
    (v_MOST_SIGNS : PySem.W.nsIn K mainGlobals "MOST_SIGNS" = some (some (.int 40 t_MOST_SIGNS)))
    (v_MOST_AROUND : PySem.W.nsIn K mainGlobals "MOST_AROUND" = some (some (.int 40 t_MOST_AROUND)))
    (v_MOST_BYTES : PySem.W.nsIn K mainGlobals "MOST_BYTES" = some (some (.int 4096 t_MOST_BYTES)))
    (v_MOST_AXIOMS : PySem.W.nsIn K mainGlobals "MOST_AXIOMS" = some (some (.int 6 t_MOST_AXIOMS)))
    (v_MOST_ROWS : PySem.W.nsIn K mainGlobals "MOST_ROWS" = some (some (.int 24 t_MOST_ROWS)))
    (v_MOST_GOALS : PySem.W.nsIn K mainGlobals "MOST_GOALS" = some (some (.int 4 t_MOST_GOALS)))
    (v_LOAD : PySem.W.nsIn K mainGlobals "LOAD" = some (some (.int 0 t_LOAD)))
    (v_SHOWN : PySem.W.nsIn K mainGlobals "SHOWN" = some (some (.int 1 t_SHOWN)))
    (v_FORMULA : PySem.W.nsIn K mainGlobals "FORMULA" = some (some (.int 2 t_FORMULA)))
    (v_SIZES : PySem.W.nsIn K mainGlobals "SIZES" = some (some (.int 3 t_SIZES)))
    (v_PROVES : PySem.W.nsIn K mainGlobals "PROVES" = some (some (.int 4 t_PROVES)))
    (v_DETACH : PySem.W.nsIn K mainGlobals "DETACH" = some (some (.int 5 t_DETACH)))
    (v_COMPARE : PySem.W.nsIn K mainGlobals "COMPARE" = some (some (.int 6 t_COMPARE)))
    (v_NEEDS : PySem.W.nsIn K mainGlobals "NEEDS" = some (some (.int 7 t_NEEDS)))
    (v_GIVEN : PySem.W.nsIn K mainGlobals "GIVEN" = some (some (.ref A_GIVEN)))
    (w_GIVEN : K.lookup A_GIVEN = some ⟨.type "tuple", dd_GIVEN, .seq #[.int 1 t_GIVEN0, .int 0 t_GIVEN1, .int 1 t_GIVEN2, .int 1 t_GIVEN3, .int 2 t_GIVEN4, .int 2 t_GIVEN5, .int 2 t_GIVEN6, .int 1 t_GIVEN7, .int 0 t_GIVEN8] nn_GIVEN, ss_GIVEN⟩)
    (b_len : PySem.W.nsIn K mainGlobals "len" = some none)
    (b_ord : PySem.W.nsIn K mainGlobals "ord" = some none)
    (b_int : PySem.W.nsIn K mainGlobals "int" = some none)
    (b_list : PySem.W.nsIn K mainGlobals "list" = some none)
    (b_sorted : PySem.W.nsIn K mainGlobals "sorted" = some none)
    (b_max : PySem.W.nsIn K mainGlobals "max" = some none)
    (b_reversed : PySem.W.nsIn K mainGlobals "reversed" = some none)
    (b_zip : PySem.W.nsIn K mainGlobals "zip" = some none)
    (b_range : PySem.W.nsIn K mainGlobals "range" = some none)
    (b_enumerate : PySem.W.nsIn K mainGlobals "enumerate" = some none)
    : ∃ fd : FuncData, (∀ (s : Shared) (us : List Value), us.length = (["calls"] : List Str).length → BindsTo s fd ⟨us, []⟩ ((["calls"] : List Str).zip us)) ∧ ∀ base : Heap, K.In base → base.Ns mainGlobals mg → FnOk P w K mg base CX0 10 fa fd ["calls"] ((sp_answers K)) := by
  have e0 := hfa.symm.trans (PySem.W.mg_of X G a_answers)
  cases e0
  let L : Lay := { Fault := C_Fault, Net := C_Net, Held := C_Held, Cursor := C_Cursor, Draft := C_Draft, Desk := C_Desk, FaultI := f_Fault___init__, KEYWORDS := A_KEYWORDS, GIVEN := A_GIVEN }
  have T : Txt K mg L := {
    cNet := ⟨pg_Net, hd_Net, po_Net, sa_Net⟩,
    nNet_heads := n_Net_heads,
    nNet_parts := n_Net_parts,
    nNet_stands := n_Net_stands,
    cHeld := ⟨pg_Held, hd_Held, po_Held, sa_Held⟩,
    nHeld_numbers := n_Held_numbers,
    nHeld_formulas := n_Held_formulas,
    nHeld_rows := n_Held_rows,
    nHeld_goals := n_Held_goals,
    cCursor := ⟨pg_Cursor, hd_Cursor, po_Cursor, sa_Cursor⟩,
    nCursor_tokens := n_Cursor_tokens,
    nCursor_at := n_Cursor_at,
    cDraft := ⟨pg_Draft, hd_Draft, po_Draft, sa_Draft⟩,
    nDraft_signs := n_Draft_signs,
    nDraft_unknowns := n_Draft_unknowns,
    nDraft_around := n_Draft_around,
    nDraft_brackets := n_Draft_brackets,
    nDraft_ended := n_Draft_ended,
    nDraft_begin := n_Draft_begin,
    cDesk := ⟨pg_Desk, hd_Desk, po_Desk, sa_Desk⟩,
    nDesk_held := n_Desk_held,
    vIMPLIES := ⟨_, PySem.W.mg_of X G v_IMPLIES⟩,
    vDENIES := ⟨_, PySem.W.mg_of X G v_DENIES⟩,
    vFIRST_UNKNOWN := ⟨_, PySem.W.mg_of X G v_FIRST_UNKNOWN⟩,
    vMOST_FITTED := ⟨_, PySem.W.mg_of X G v_MOST_FITTED⟩,
    vMOST_DETACHED := ⟨_, PySem.W.mg_of X G v_MOST_DETACHED⟩,
    vBLANKS := ⟨_, PySem.W.mg_of X G v_BLANKS⟩,
    vREMARK := ⟨_, PySem.W.mg_of X G v_REMARK⟩,
    vSIGNS := ⟨_, PySem.W.mg_of X G v_SIGNS⟩,
    vDIGITS := ⟨_, PySem.W.mg_of X G v_DIGITS⟩,
    vLETTERS := ⟨_, PySem.W.mg_of X G v_LETTERS⟩,
    vSTRANGE := ⟨_, PySem.W.mg_of X G v_STRANGE⟩,
    vEND := ⟨_, PySem.W.mg_of X G v_END⟩,
    vKEYWORDS := ⟨PySem.W.mg_of X G v_KEYWORDS, fun H => .inr ⟨_, _, _, w_KEYWORDS, rfl, rfl, by rw [PySem.sizeLine_eq]; show 3 ≤ 16777216; decide, by repeat (first | exact .nil | refine .cons ⟨_, rfl⟩ ?_)⟩⟩,
    vLONGEST_NAME := ⟨_, PySem.W.mg_of X G v_LONGEST_NAME⟩,
    vGREATEST_NUMBER := ⟨_, PySem.W.mg_of X G v_GREATEST_NUMBER⟩,
    vLONGEST_NUMBER := ⟨_, PySem.W.mg_of X G v_LONGEST_NUMBER⟩,
    vMOST_SIGNS := ⟨_, PySem.W.mg_of X G v_MOST_SIGNS⟩,
    vMOST_AROUND := ⟨_, PySem.W.mg_of X G v_MOST_AROUND⟩,
    vMOST_BYTES := ⟨_, PySem.W.mg_of X G v_MOST_BYTES⟩,
    vMOST_AXIOMS := ⟨_, PySem.W.mg_of X G v_MOST_AXIOMS⟩,
    vMOST_ROWS := ⟨_, PySem.W.mg_of X G v_MOST_ROWS⟩,
    vMOST_GOALS := ⟨_, PySem.W.mg_of X G v_MOST_GOALS⟩,
    vLOAD := ⟨_, PySem.W.mg_of X G v_LOAD⟩,
    vSHOWN := ⟨_, PySem.W.mg_of X G v_SHOWN⟩,
    vFORMULA := ⟨_, PySem.W.mg_of X G v_FORMULA⟩,
    vSIZES := ⟨_, PySem.W.mg_of X G v_SIZES⟩,
    vPROVES := ⟨_, PySem.W.mg_of X G v_PROVES⟩,
    vDETACH := ⟨_, PySem.W.mg_of X G v_DETACH⟩,
    vCOMPARE := ⟨_, PySem.W.mg_of X G v_COMPARE⟩,
    vNEEDS := ⟨_, PySem.W.mg_of X G v_NEEDS⟩,
    n_len := PySem.W.mg_none_of X G b_len,
    n_ord := PySem.W.mg_none_of X G b_ord,
    n_int := PySem.W.mg_none_of X G b_int,
    n_list := PySem.W.mg_none_of X G b_list,
    n_sorted := PySem.W.mg_none_of X G b_sorted,
    n_max := PySem.W.mg_none_of X G b_max,
    n_reversed := PySem.W.mg_none_of X G b_reversed,
    n_zip := PySem.W.mg_none_of X G b_zip,
    n_range := PySem.W.mg_none_of X G b_range,
    n_enumerate := PySem.W.mg_none_of X G b_enumerate }
  have TF : PySem.FltX.FltTxt K mg L.Fault L.FaultI := { gC := PySem.W.mg_of X G g_Fault, cls := ⟨_, _, _, _, _, _, _, _, _, _, _, _, _, _, xF⟩, sa := saF, ga := gaF, gg := ggF, noC := n_Fault_code, noP := n_Fault_place, iC := a_Fault___init__, tC := t_Fault___init__, kC := kcF, exC := exF, tyC := tyF, hdC := hdF, te := flt_te exF icF tyF scF, fn := ⟨_, _, _, _, _, _, _, _, _, _, _, _, _, _, _, _, _, _, _, lF, cF⟩ }
  have TG : mg "GIVEN" = some (.ref L.GIVEN) ∧ ∀ H, SqT K H L.GIVEN givenV := ⟨PySem.W.mg_of X G v_GIVEN, fun H => .inr ⟨_, _, _, w_GIVEN, rfl, rfl, by rw [PySem.sizeLine_eq]; show 9 ≤ 16777216; decide, by repeat (first | exact .nil | refine .cons ⟨_, rfl⟩ ?_)⟩⟩
  have F_unknown_sign := fun_mk (st := s_unknown_sign) l_unknown_sign c_unknown_sign k_unknown_sign
  have B_unknown_sign := F_unknown_sign.binds (ps := ["number"]) fun _ _ _ _ _ _ us hl => match us, hl with | [_], _ => rfl
  have F_is_unknown := fun_mk (st := s_is_unknown) l_is_unknown c_is_unknown k_is_unknown
  have B_is_unknown := F_is_unknown.binds (ps := ["sign"]) fun _ _ _ _ _ _ us hl => match us, hl with | [_], _ => rfl
  have F_told := fun_mk (st := s_told) l_told c_told k_told
  have B_told := F_told.binds (ps := ["formula"]) fun _ _ _ _ _ _ us hl => match us, hl with | [_], _ => rfl
  have F_part_end := fun_mk (st := s_part_end) l_part_end c_part_end k_part_end
  have B_part_end := F_part_end.binds (ps := ["formula", "begin"]) fun _ _ _ _ _ _ us hl => match us, hl with | [_, _], _ => rfl
  have F_is_instance := fun_mk (st := s_is_instance) l_is_instance c_is_instance k_is_instance
  have B_is_instance := F_is_instance.binds (ps := ["formula", "pattern"]) fun _ _ _ _ _ _ us hl => match us, hl with | [_, _], _ => rfl
  have F_bracketed := fun_mk (st := s_bracketed) l_bracketed c_bracketed k_bracketed
  have B_bracketed := F_bracketed.binds (ps := ["part"]) fun _ _ _ _ _ _ us hl => match us, hl with | [_], _ => rfl
  have F_written := fun_mk (st := s_written) l_written c_written k_written
  have B_written := F_written.binds (ps := ["formula"]) fun _ _ _ _ _ _ us hl => match us, hl with | [_], _ => rfl
  have F_Net___init__ := fun_mk (st := s_Net_init) l_Net___init__ c_Net___init__ k_Net___init__
  have B_Net___init__ := F_Net___init__.binds (ps := ["self"]) fun _ _ _ _ _ _ us hl => match us, hl with | [_], _ => rfl
  have F_Net_add_node := fun_mk (st := s_Net_add_node) l_Net_add_node c_Net_add_node k_Net_add_node
  have B_Net_add_node := F_Net_add_node.binds (ps := ["self", "head", "parts"]) fun _ _ _ _ _ _ us hl => match us, hl with | [_, _, _], _ => rfl
  have F_Net_add_formula := fun_mk (st := s_Net_add_formula) l_Net_add_formula c_Net_add_formula k_Net_add_formula
  have B_Net_add_formula := F_Net_add_formula.binds (ps := ["self", "formula"]) fun _ _ _ _ _ _ us hl => match us, hl with | [_, _], _ => rfl
  have F_Net_leader := fun_mk (st := s_Net_leader) l_Net_leader c_Net_leader k_Net_leader
  have B_Net_leader := F_Net_leader.binds (ps := ["self", "node"]) fun _ _ _ _ _ _ us hl => match us, hl with | [_, _], _ => rfl
  have F_Net_make_same := fun_mk (st := s_Net_make_same) l_Net_make_same c_Net_make_same k_Net_make_same
  have B_Net_make_same := F_Net_make_same.binds (ps := ["self", "one", "other"]) fun _ _ _ _ _ _ us hl => match us, hl with | [_, _, _], _ => rfl
  have F_Net_formula_of := fun_mk (st := s_Net_formula_of) l_Net_formula_of c_Net_formula_of k_Net_formula_of
  have B_Net_formula_of := F_Net_formula_of.binds (ps := ["self", "node", "most"]) fun _ _ _ _ _ _ us hl => match us, hl with | [_, _, _], _ => rfl
  have F_detached := fun_mk (st := s_detached) l_detached c_detached k_detached
  have B_detached := F_detached.binds (ps := ["first", "second"]) fun _ _ _ _ _ _ us hl => match us, hl with | [_, _], _ => rfl
  have F_Held___init__ := fun_mk (st := s_Held_init) l_Held___init__ c_Held___init__ k_Held___init__
  have B_Held___init__ := F_Held___init__.binds (ps := ["self"]) fun _ _ _ _ _ _ us hl => match us, hl with | [_], _ => rfl
  have F_Held_axiom_count := fun_mk (st := s_Held_axiom_count) l_Held_axiom_count c_Held_axiom_count k_Held_axiom_count
  have B_Held_axiom_count := F_Held_axiom_count.binds (ps := ["self"]) fun _ _ _ _ _ _ us hl => match us, hl with | [_], _ => rfl
  have F_Held_add_axiom := fun_mk (st := s_Held_add_axiom) l_Held_add_axiom c_Held_add_axiom k_Held_add_axiom
  have B_Held_add_axiom := F_Held_add_axiom.binds (ps := ["self", "name", "formula"]) fun _ _ _ _ _ _ us hl => match us, hl with | [_, _, _], _ => rfl
  have F_Held_add_row := fun_mk (st := s_Held_add_row) l_Held_add_row c_Held_add_row k_Held_add_row
  have B_Held_add_row := F_Held_add_row.binds (ps := ["self", "name", "first", "second"]) fun _ _ _ _ _ _ us hl => match us, hl with | [_, _, _, _], _ => rfl
  have F_one_form := fun_mk (st := s_one_form) l_one_form c_one_form k_one_form
  have B_one_form := F_one_form.binds (ps := ["held"]) fun _ _ _ _ _ _ us hl => match us, hl with | [_], _ => rfl
  have F_tree_sizes := fun_mk (st := s_tree_sizes) l_tree_sizes c_tree_sizes k_tree_sizes
  have B_tree_sizes := F_tree_sizes.binds (ps := ["held", "item"]) fun _ _ _ _ _ _ us hl => match us, hl with | [_, _], _ => rfl
  have F_items_hung_on := fun_mk (st := s_items_hung_on) l_items_hung_on c_items_hung_on k_items_hung_on
  have B_items_hung_on := F_items_hung_on.binds (ps := ["held", "item"]) fun _ _ _ _ _ _ us hl => match us, hl with | [_, _], _ => rfl
  have F_characters := fun_mk (st := s_characters) l_characters c_characters k_characters
  have B_characters := F_characters.binds (ps := ["data"]) fun _ _ _ _ _ _ us hl => match us, hl with | [_], _ => rfl
  have F_remark_end := fun_mk (st := s_remark_end) l_remark_end c_remark_end k_remark_end
  have B_remark_end := F_remark_end.binds (ps := ["text", "place"]) fun _ _ _ _ _ _ us hl => match us, hl with | [_, _], _ => rfl
  have F_after_blanks := fun_mk (st := s_after_blanks) l_after_blanks c_after_blanks k_after_blanks
  have B_after_blanks := F_after_blanks.binds (ps := ["text", "place"]) fun _ _ _ _ _ _ us hl => match us, hl with | [_, _], _ => rfl
  have F_run_end := fun_mk (st := s_run_end) l_run_end c_run_end k_run_end
  have B_run_end := F_run_end.binds (ps := ["text", "place", "allowed"]) fun _ _ _ _ _ _ us hl => match us, hl with | [_, _, _], _ => rfl
  have F_is_number := fun_mk (st := s_is_number) l_is_number c_is_number k_is_number
  have B_is_number := F_is_number.binds (ps := ["digits"]) fun _ _ _ _ _ _ us hl => match us, hl with | [_], _ => rfl
  have F_token_end := fun_mk (st := s_token_end) l_token_end c_token_end k_token_end
  have B_token_end := F_token_end.binds (ps := ["text", "place"]) fun _ _ _ _ _ _ us hl => match us, hl with | [_, _], _ => rfl
  have F_all_tokens := fun_mk (st := s_all_tokens) l_all_tokens c_all_tokens k_all_tokens
  have B_all_tokens := F_all_tokens.binds (ps := ["data"]) fun _ _ _ _ _ _ us hl => match us, hl with | [_], _ => rfl
  have F_is_name := fun_mk (st := s_is_name) l_is_name c_is_name k_is_name
  have B_is_name := F_is_name.binds (ps := ["word"]) fun _ _ _ _ _ _ us hl => match us, hl with | [_], _ => rfl
  have F_Cursor___init__ := fun_mk (st := s_Cursor_init) l_Cursor___init__ c_Cursor___init__ k_Cursor___init__
  have B_Cursor___init__ := F_Cursor___init__.binds (ps := ["self", "tokens"]) fun _ _ _ _ _ _ us hl => match us, hl with | [_, _], _ => rfl
  have F_Cursor_word := fun_mk (st := s_Cursor_word) l_Cursor_word c_Cursor_word k_Cursor_word
  have B_Cursor_word := F_Cursor_word.binds (ps := ["self"]) fun _ _ _ _ _ _ us hl => match us, hl with | [_], _ => rfl
  have F_Cursor_here := fun_mk (st := s_Cursor_here) l_Cursor_here c_Cursor_here k_Cursor_here
  have B_Cursor_here := F_Cursor_here.binds (ps := ["self"]) fun _ _ _ _ _ _ us hl => match us, hl with | [_], _ => rfl
  have F_Cursor_go_on := fun_mk (st := s_Cursor_go_on) l_Cursor_go_on c_Cursor_go_on k_Cursor_go_on
  have B_Cursor_go_on := F_Cursor_go_on.binds (ps := ["self"]) fun _ _ _ _ _ _ us hl => match us, hl with | [_], _ => rfl
  have F_Cursor_expect := fun_mk (st := s_Cursor_expect) l_Cursor_expect c_Cursor_expect k_Cursor_expect
  have B_Cursor_expect := F_Cursor_expect.binds (ps := ["self", "word"]) fun _ _ _ _ _ _ us hl => match us, hl with | [_, _], _ => rfl
  have F_Cursor_name := fun_mk (st := s_Cursor_name) l_Cursor_name c_Cursor_name k_Cursor_name
  have B_Cursor_name := F_Cursor_name.binds (ps := ["self"]) fun _ _ _ _ _ _ us hl => match us, hl with | [_], _ => rfl
  have F_Draft___init__ := fun_mk (st := s_Draft_init) l_Draft___init__ c_Draft___init__ k_Draft___init__
  have B_Draft___init__ := F_Draft___init__.binds (ps := ["self"]) fun _ _ _ _ _ _ us hl => match us, hl with | [_], _ => rfl
  have F_Draft_is_whole := fun_mk (st := s_Draft_is_whole) l_Draft_is_whole c_Draft_is_whole k_Draft_is_whole
  have B_Draft_is_whole := F_Draft_is_whole.binds (ps := ["self"]) fun _ _ _ _ _ _ us hl => match us, hl with | [_], _ => rfl
  have F_Draft_takes := fun_mk (st := s_Draft_takes) l_Draft_takes c_Draft_takes k_Draft_takes
  have B_Draft_takes := F_Draft_takes.binds (ps := ["self", "word"]) fun _ _ _ _ _ _ us hl => match us, hl with | [_, _], _ => rfl
  have F_Draft_end_part := fun_mk (st := s_Draft_end_part) l_Draft_end_part c_Draft_end_part k_Draft_end_part
  have B_Draft_end_part := F_Draft_end_part.binds (ps := ["self", "begin"]) fun _ _ _ _ _ _ us hl => match us, hl with | [_, _], _ => rfl
  have F_Draft_put_bracket_end := fun_mk (st := s_bracket_end) l_Draft_put_bracket_end c_Draft_put_bracket_end k_Draft_put_bracket_end
  have B_Draft_put_bracket_end := F_Draft_put_bracket_end.binds (ps := ["self"]) fun _ _ _ _ _ _ us hl => match us, hl with | [_], _ => rfl
  have F_Draft_put := fun_mk (st := s_Draft_put) l_Draft_put c_Draft_put k_Draft_put
  have B_Draft_put := F_Draft_put.binds (ps := ["self", "word"]) fun _ _ _ _ _ _ us hl => match us, hl with | [_, _], _ => rfl
  have F_read_formula := fun_mk (st := s_read_formula) l_read_formula c_read_formula k_read_formula
  have B_read_formula := F_read_formula.binds (ps := ["cursor"]) fun _ _ _ _ _ _ us hl => match us, hl with | [_], _ => rfl
  have F_read_new_name := fun_mk (st := s_read_new_name) l_read_new_name c_read_new_name k_read_new_name
  have B_read_new_name := F_read_new_name.binds (ps := ["cursor", "held"]) fun _ _ _ _ _ _ us hl => match us, hl with | [_, _], _ => rfl
  have F_read_axiom := fun_mk (st := s_read_axiom) l_read_axiom c_read_axiom k_read_axiom
  have B_read_axiom := F_read_axiom.binds (ps := ["cursor", "held"]) fun _ _ _ _ _ _ us hl => match us, hl with | [_, _], _ => rfl
  have F_check_room := fun_mk (st := s_check_room) l_check_room c_check_room k_check_room
  have B_check_room := F_check_room.binds (ps := ["cursor", "count", "most"]) fun _ _ _ _ _ _ us hl => match us, hl with | [_, _, _], _ => rfl
  have F_read_axioms := fun_mk (st := s_read_axioms) l_read_axioms c_read_axioms k_read_axioms
  have B_read_axioms := F_read_axioms.binds (ps := ["cursor", "held"]) fun _ _ _ _ _ _ us hl => match us, hl with | [_, _], _ => rfl
  have F_read_item := fun_mk (st := s_read_item) l_read_item c_read_item k_read_item
  have B_read_item := F_read_item.binds (ps := ["cursor", "held"]) fun _ _ _ _ _ _ us hl => match us, hl with | [_, _], _ => rfl
  have F_read_rows := fun_mk (st := s_read_rows) l_read_rows c_read_rows k_read_rows
  have B_read_rows := F_read_rows.binds (ps := ["cursor", "held"]) fun _ _ _ _ _ _ us hl => match us, hl with | [_, _], _ => rfl
  have F_read_goals := fun_mk (st := s_read_goals) l_read_goals c_read_goals k_read_goals
  have B_read_goals := F_read_goals.binds (ps := ["cursor", "held"]) fun _ _ _ _ _ _ us hl => match us, hl with | [_, _], _ => rfl
  have F_read_text := fun_mk (st := s_read_text) l_read_text c_read_text k_read_text
  have B_read_text := F_read_text.binds (ps := ["data"]) fun _ _ _ _ _ _ us hl => match us, hl with | [_], _ => rfl
  have F_Desk___init__ := fun_mk (st := s_Desk_init) l_Desk___init__ c_Desk___init__ k_Desk___init__
  have B_Desk___init__ := F_Desk___init__.binds (ps := ["self"]) fun _ _ _ _ _ _ us hl => match us, hl with | [_], _ => rfl
  have F_Desk_load := fun_mk (st := s_Desk_load) l_Desk_load c_Desk_load k_Desk_load
  have B_Desk_load := F_Desk_load.binds (ps := ["self", "data"]) fun _ _ _ _ _ _ us hl => match us, hl with | [_, _], _ => rfl
  have F_shown := fun_mk (st := s_shown) l_shown c_shown k_shown
  have B_shown := F_shown.binds (ps := ["held"]) fun _ _ _ _ _ _ us hl => match us, hl with | [_], _ => rfl
  have F_has_number := fun_mk (st := s_has_number) l_has_number c_has_number k_has_number
  have B_has_number := F_has_number.binds (ps := ["numbered", "number"]) fun _ _ _ _ _ _ us hl => match us, hl with | [_, _], _ => rfl
  have F_refused := fun_mk (st := s_refused) l_refused c_refused k_refused
  have B_refused := F_refused.binds (ps := ["held", "items"]) fun _ _ _ _ _ _ us hl => match us, hl with | [_, _], _ => rfl
  have F_formula := fun_mk (st := s_formula) l_formula c_formula k_formula
  have B_formula := F_formula.binds (ps := ["held", "item"]) fun _ _ _ _ _ _ us hl => match us, hl with | [_, _], _ => rfl
  have F_sizes := fun_mk (st := s_sizes) l_sizes c_sizes k_sizes
  have B_sizes := F_sizes.binds (ps := ["held", "item"]) fun _ _ _ _ _ _ us hl => match us, hl with | [_, _], _ => rfl
  have F_is_proved := fun_mk (st := s_is_proved) l_is_proved c_is_proved k_is_proved
  have B_is_proved := F_is_proved.binds (ps := ["goal", "general"]) fun _ _ _ _ _ _ us hl => match us, hl with | [_, _], _ => rfl
  have F_proves := fun_mk (st := s_proves) l_proves c_proves k_proves
  have B_proves := F_proves.binds (ps := ["held", "item", "goal"]) fun _ _ _ _ _ _ us hl => match us, hl with | [_, _, _], _ => rfl
  have F_detach := fun_mk (st := s_detach) l_detach c_detach k_detach
  have B_detach := F_detach.binds (ps := ["held", "first", "second"]) fun _ _ _ _ _ _ us hl => match us, hl with | [_, _, _], _ => rfl
  have F_compare := fun_mk (st := s_compare) l_compare c_compare k_compare
  have B_compare := F_compare.binds (ps := ["held", "first", "second"]) fun _ _ _ _ _ _ us hl => match us, hl with | [_, _, _], _ => rfl
  have F_needs := fun_mk (st := s_needs) l_needs c_needs k_needs
  have B_needs := F_needs.binds (ps := ["held", "item"]) fun _ _ _ _ _ _ us hl => match us, hl with | [_, _], _ => rfl
  have F_first_proof := fun_mk (st := s_first_proof) l_first_proof c_first_proof k_first_proof
  have B_first_proof := F_first_proof.binds (ps := ["held", "goal"]) fun _ _ _ _ _ _ us hl => match us, hl with | [_, _], _ => rfl
  have F_goals := fun_mk (st := s_goals) l_goals c_goals k_goals
  have B_goals := F_goals.binds (ps := ["held"]) fun _ _ _ _ _ _ us hl => match us, hl with | [_], _ => rfl
  have F_Desk_answer := fun_mk (st := s_Desk_answer) l_Desk_answer c_Desk_answer k_Desk_answer
  have B_Desk_answer := F_Desk_answer.binds (ps := ["self", "call", "given"]) fun _ _ _ _ _ _ us hl => match us, hl with | [_, _, _], _ => rfl
  have F_answers := fun_mk (st := s_answers) l_answers c_answers k_answers
  have B_answers := F_answers.binds (ps := ["calls"]) fun _ _ _ _ _ _ us hl => match us, hl with | [_], _ => rfl
  refine ⟨PySem.W.fnOf "answers" "answers" (defArgs s_answers) (defBody s_answers) (defScope s_answers) .none kV_answers dc_answers pm_answers an_answers cd_answers ct_answers, fun s us hu => match us, hu with | [_], _ => .of_eq rfl, fun base _ _ => ?_⟩
  have h_unknown_sign : HasDef P w K mg base CX0 1 "unknown_sign" ["number"] (sp_unknown_sign) := ⟨_, _, PySem.W.mg_of X G a_unknown_sign, k_unknown_sign, B_unknown_sign, ok_unknown_sign F_unknown_sign T⟩
  have h_is_unknown : HasDef P w K mg base CX0 1 "is_unknown" ["sign"] (sp_is_unknown) := ⟨_, _, PySem.W.mg_of X G a_is_unknown, k_is_unknown, B_is_unknown, ok_is_unknown F_is_unknown T⟩
  have h_told : HasDef P w K mg base CX0 1 "told" ["formula"] ((sp_told K)) := ⟨_, _, PySem.W.mg_of X G a_told, k_told, B_told, ok_told F_told T⟩
  have h_part_end : HasDef P w K mg base CX0 2 "part_end" ["formula", "begin"] ((sp_part_end K)) := ⟨_, _, PySem.W.mg_of X G a_part_end, k_part_end, B_part_end, ok_part_end F_part_end T h_is_unknown⟩
  have h_is_instance : HasDef P w K mg base CX0 3 "is_instance" ["formula", "pattern"] ((sp_is_instance K)) := ⟨_, _, PySem.W.mg_of X G a_is_instance, k_is_instance, B_is_instance, ok_is_instance F_is_instance T h_is_unknown h_part_end⟩
  have h_bracketed : HasDef P w K mg base CX0 1 "bracketed" ["part"] ((sp_bracketed K)) := ⟨_, _, PySem.W.mg_of X G a_bracketed, k_bracketed, B_bracketed, ok_bracketed F_bracketed T⟩
  have h_written : HasDef P w K mg base CX0 2 "written" ["formula"] ((sp_written K)) := ⟨_, _, PySem.W.mg_of X G a_written, k_written, B_written, ok_written F_written T h_bracketed⟩
  have h_Net___init__ : HasMake P w K mg base CX0 1 "Net" L.Net ["self"] ((sp_Net_init L)) := ⟨_, _, ⟨mk_Net, a_Net___init__, i_Net___init__, kc_Net⟩, PySem.W.mg_of X G g_Net, B_Net___init__, ok_Net_init F_Net___init__ T⟩
  have h_Net_add_node : HasMeth P w K mg base CX0 1 L.Net "add_node" ["self", "head", "parts"] ((sp_add_node L)) := ⟨_, _, ⟨a_Net_add_node, i_Net_add_node, k_Net_add_node⟩, B_Net_add_node, ok_Net_add_node F_Net_add_node T⟩
  have h_Net_add_formula : HasMeth P w K mg base CX0 2 L.Net "add_formula" ["self", "formula"] ((sp_add_formula K L)) := ⟨_, _, ⟨a_Net_add_formula, i_Net_add_formula, k_Net_add_formula⟩, B_Net_add_formula, ok_Net_add_formula F_Net_add_formula T h_Net_add_node⟩
  have h_Net_leader : HasMeth P w K mg base CX0 1 L.Net "leader" ["self", "node"] ((sp_leader L)) := ⟨_, _, ⟨a_Net_leader, i_Net_leader, k_Net_leader⟩, B_Net_leader, ok_Net_leader F_Net_leader T⟩
  have h_Net_make_same : HasMeth P w K mg base CX0 2 L.Net "make_same" ["self", "one", "other"] ((sp_make_same L)) := ⟨_, _, ⟨a_Net_make_same, i_Net_make_same, k_Net_make_same⟩, B_Net_make_same, ok_Net_make_same F_Net_make_same T h_Net_leader h_is_unknown⟩
  have h_Net_formula_of : HasMeth P w K mg base CX0 2 L.Net "formula_of" ["self", "node", "most"] ((sp_formula_of L)) := ⟨_, _, ⟨a_Net_formula_of, i_Net_formula_of, k_Net_formula_of⟩, B_Net_formula_of, ok_Net_formula_of F_Net_formula_of T h_Net_leader h_is_unknown h_unknown_sign⟩
  have h_detached : HasDef P w K mg base CX0 3 "detached" ["first", "second"] (sp_detached) := ⟨_, _, PySem.W.mg_of X G a_detached, k_detached, B_detached, ok_detached F_detached T h_is_unknown h_unknown_sign h_Net___init__ h_Net_add_formula h_Net_make_same h_Net_formula_of⟩
  have h_Held___init__ : HasMake P w K mg base CX0 1 "Held" L.Held ["self"] ((sp_Held_init L)) := ⟨_, _, ⟨mk_Held, a_Held___init__, i_Held___init__, kc_Held⟩, PySem.W.mg_of X G g_Held, B_Held___init__, ok_Held_init F_Held___init__ T⟩
  have h_Held_axiom_count : HasMeth P w K mg base CX0 1 L.Held "axiom_count" ["self"] ((sp_axiom_count L)) := ⟨_, _, ⟨a_Held_axiom_count, i_Held_axiom_count, k_Held_axiom_count⟩, B_Held_axiom_count, ok_Held_axiom_count F_Held_axiom_count T⟩
  have h_Held_add_axiom : HasMeth P w K mg base CX0 1 L.Held "add_axiom" ["self", "name", "formula"] ((sp_add_axiom L)) := ⟨_, _, ⟨a_Held_add_axiom, i_Held_add_axiom, k_Held_add_axiom⟩, B_Held_add_axiom, ok_Held_add_axiom F_Held_add_axiom T⟩
  have h_Held_add_row : HasMeth P w K mg base CX0 4 L.Held "add_row" ["self", "name", "first", "second"] ((sp_add_row L)) := ⟨_, _, ⟨a_Held_add_row, i_Held_add_row, k_Held_add_row⟩, B_Held_add_row, ok_Held_add_row F_Held_add_row T h_detached⟩
  have h_one_form : HasDef P w K mg base CX0 3 "one_form" ["held"] ((sp_one_form L)) := ⟨_, _, PySem.W.mg_of X G a_one_form, k_one_form, B_one_form, ok_one_form F_one_form T h_Held_axiom_count h_written⟩
  have h_tree_sizes : HasDef P w K mg base CX0 2 "tree_sizes" ["held", "item"] ((sp_tree_sizes L)) := ⟨_, _, PySem.W.mg_of X G a_tree_sizes, k_tree_sizes, B_tree_sizes, ok_tree_sizes F_tree_sizes T h_Held_axiom_count⟩
  have h_items_hung_on : HasDef P w K mg base CX0 2 "items_hung_on" ["held", "item"] ((sp_items_hung_on L)) := ⟨_, _, PySem.W.mg_of X G a_items_hung_on, k_items_hung_on, B_items_hung_on, ok_items_hung_on F_items_hung_on T h_Held_axiom_count⟩
  have h_characters : HasDef P w K mg base CX0 1 "characters" ["data"] ((sp_characters K)) := ⟨_, _, PySem.W.mg_of X G a_characters, k_characters, B_characters, ok_characters F_characters T⟩
  have h_remark_end : HasDef P w K mg base CX0 1 "remark_end" ["text", "place"] (sp_remark_end) := ⟨_, _, PySem.W.mg_of X G a_remark_end, k_remark_end, B_remark_end, ok_remark_end F_remark_end T⟩
  have h_after_blanks : HasDef P w K mg base CX0 2 "after_blanks" ["text", "place"] (sp_after_blanks) := ⟨_, _, PySem.W.mg_of X G a_after_blanks, k_after_blanks, B_after_blanks, ok_after_blanks F_after_blanks T h_remark_end⟩
  have h_run_end : HasDef P w K mg base CX0 1 "run_end" ["text", "place", "allowed"] (sp_run_end) := ⟨_, _, PySem.W.mg_of X G a_run_end, k_run_end, B_run_end, ok_run_end F_run_end T⟩
  have h_is_number : HasDef P w K mg base CX0 1 "is_number" ["digits"] (sp_is_number) := ⟨_, _, PySem.W.mg_of X G a_is_number, k_is_number, B_is_number, ok_is_number F_is_number T⟩
  have h_token_end : HasDef P w K mg base (L2.CX P w) 3 "token_end" ["text", "place"] ((sp_token_end L)) := ⟨_, _, PySem.W.mg_of X G a_token_end, k_token_end, B_token_end, ok_token_end F_token_end T TF h_run_end h_is_number⟩
  have h_all_tokens : HasDef P w K mg base (L2.CX P w) 4 "all_tokens" ["data"] ((sp_all_tokens K L)) := ⟨_, _, PySem.W.mg_of X G a_all_tokens, k_all_tokens, B_all_tokens, ok_all_tokens F_all_tokens T h_characters h_after_blanks h_token_end⟩
  have h_is_name : HasDef P w K mg base CX0 1 "is_name" ["word"] (sp_is_name) := ⟨_, _, PySem.W.mg_of X G a_is_name, k_is_name, B_is_name, ok_is_name F_is_name T⟩
  have h_Cursor___init__ : HasMake P w K mg base CX0 1 "Cursor" L.Cursor ["self", "tokens"] ((sp_Cursor_init L)) := ⟨_, _, ⟨mk_Cursor, a_Cursor___init__, i_Cursor___init__, kc_Cursor⟩, PySem.W.mg_of X G g_Cursor, B_Cursor___init__, ok_Cursor_init F_Cursor___init__ T⟩
  have h_Cursor_word : HasMeth P w K mg base CX0 1 L.Cursor "word" ["self"] ((sp_word L)) := ⟨_, _, ⟨a_Cursor_word, i_Cursor_word, k_Cursor_word⟩, B_Cursor_word, ok_Cursor_word F_Cursor_word T⟩
  have h_Cursor_here : HasMeth P w K mg base CX0 1 L.Cursor "here" ["self"] ((sp_here L)) := ⟨_, _, ⟨a_Cursor_here, i_Cursor_here, k_Cursor_here⟩, B_Cursor_here, ok_Cursor_here F_Cursor_here T⟩
  have h_Cursor_go_on : HasMeth P w K mg base CX0 1 L.Cursor "go_on" ["self"] ((sp_go_on L)) := ⟨_, _, ⟨a_Cursor_go_on, i_Cursor_go_on, k_Cursor_go_on⟩, B_Cursor_go_on, ok_Cursor_go_on F_Cursor_go_on T⟩
  have h_Cursor_expect : HasMeth P w K mg base (L2.CX P w) 3 L.Cursor "expect" ["self", "word"] ((sp_expect L)) := ⟨_, _, ⟨a_Cursor_expect, i_Cursor_expect, k_Cursor_expect⟩, B_Cursor_expect, ok_Cursor_expect F_Cursor_expect T TF h_Cursor_word h_Cursor_here h_Cursor_go_on⟩
  have h_Cursor_name : HasMeth P w K mg base (L2.CX P w) 3 L.Cursor "name" ["self"] ((sp_name L)) := ⟨_, _, ⟨a_Cursor_name, i_Cursor_name, k_Cursor_name⟩, B_Cursor_name, ok_Cursor_name F_Cursor_name T TF h_Cursor_word h_Cursor_here h_is_name⟩
  have h_Draft___init__ : HasMake P w K mg base CX0 1 "Draft" L.Draft ["self"] ((sp_Draft_init L)) := ⟨_, _, ⟨mk_Draft, a_Draft___init__, i_Draft___init__, kc_Draft⟩, PySem.W.mg_of X G g_Draft, B_Draft___init__, ok_Draft_init F_Draft___init__ T⟩
  have h_Draft_is_whole : HasMeth P w K mg base CX0 1 L.Draft "is_whole" ["self"] ((sp_is_whole L)) := ⟨_, _, ⟨a_Draft_is_whole, i_Draft_is_whole, k_Draft_is_whole⟩, B_Draft_is_whole, ok_Draft_is_whole F_Draft_is_whole T⟩
  have h_Draft_takes : HasMeth P w K mg base CX0 2 L.Draft "takes" ["self", "word"] ((sp_takes L)) := ⟨_, _, ⟨a_Draft_takes, i_Draft_takes, k_Draft_takes⟩, B_Draft_takes, ok_Draft_takes F_Draft_takes T h_is_name⟩
  have h_Draft_end_part : HasMeth P w K mg base CX0 1 L.Draft "end_part" ["self", "begin"] ((sp_end_part L)) := ⟨_, _, ⟨a_Draft_end_part, i_Draft_end_part, k_Draft_end_part⟩, B_Draft_end_part, ok_Draft_end_part F_Draft_end_part T⟩
  have h_Draft_put_bracket_end : HasMeth P w K mg base CX0 2 L.Draft "put_bracket_end" ["self"] ((sp_bracket_end L)) := ⟨_, _, ⟨a_Draft_put_bracket_end, i_Draft_put_bracket_end, k_Draft_put_bracket_end⟩, B_Draft_put_bracket_end, ok_bracket_end F_Draft_put_bracket_end T h_Draft_end_part⟩
  have h_Draft_put : HasMeth P w K mg base CX0 3 L.Draft "put" ["self", "word"] ((sp_put L)) := ⟨_, _, ⟨a_Draft_put, i_Draft_put, k_Draft_put⟩, B_Draft_put, ok_Draft_put F_Draft_put T h_unknown_sign h_Draft_end_part h_Draft_put_bracket_end⟩
  have h_read_formula : HasDef P w K mg base (L2.CX P w) 4 "read_formula" ["cursor"] ((sp_read_formula L)) := ⟨_, _, PySem.W.mg_of X G a_read_formula, k_read_formula, B_read_formula, ok_read_formula F_read_formula T TF h_Cursor_word h_Cursor_here h_Cursor_go_on h_Draft___init__ h_Draft_is_whole h_Draft_takes h_Draft_put⟩
  have h_read_new_name : HasDef P w K mg base (L2.CX P w) 4 "read_new_name" ["cursor", "held"] ((sp_read_new_name L)) := ⟨_, _, PySem.W.mg_of X G a_read_new_name, k_read_new_name, B_read_new_name, ok_read_new_name F_read_new_name T TF h_Cursor_here h_Cursor_go_on h_Cursor_name⟩
  have h_read_axiom : HasDef P w K mg base (L2.CX P w) 5 "read_axiom" ["cursor", "held"] ((sp_read_axiom L)) := ⟨_, _, PySem.W.mg_of X G a_read_axiom, k_read_axiom, B_read_axiom, ok_read_axiom F_read_axiom T h_Cursor_expect h_read_new_name h_read_formula h_Held_add_axiom⟩
  have h_check_room : HasDef P w K mg base (L2.CX P w) 3 "check_room" ["cursor", "count", "most"] ((sp_check_room L)) := ⟨_, _, PySem.W.mg_of X G a_check_room, k_check_room, B_check_room, ok_check_room F_check_room T TF h_Cursor_here⟩
  have h_read_axioms : HasDef P w K mg base (L2.CX P w) 6 "read_axioms" ["cursor", "held"] ((sp_read_axioms L)) := ⟨_, _, PySem.W.mg_of X G a_read_axioms, k_read_axioms, B_read_axioms, ok_read_axioms F_read_axioms T h_read_axiom h_Cursor_word h_check_room h_Held_axiom_count⟩
  have h_read_item : HasDef P w K mg base (L2.CX P w) 4 "read_item" ["cursor", "held"] ((sp_read_item L)) := ⟨_, _, PySem.W.mg_of X G a_read_item, k_read_item, B_read_item, ok_read_item F_read_item T TF h_Cursor_here h_Cursor_go_on h_Cursor_name⟩
  have h_read_rows : HasDef P w K mg base (L2.CX P w) 5 "read_rows" ["cursor", "held"] ((sp_read_rows L)) := ⟨_, _, PySem.W.mg_of X G a_read_rows, k_read_rows, B_read_rows, ok_read_rows F_read_rows T h_Cursor_word h_check_room h_Cursor_go_on h_read_new_name h_Cursor_expect h_read_item h_Held_add_row⟩
  have h_read_goals : HasDef P w K mg base (L2.CX P w) 5 "read_goals" ["cursor", "held"] ((sp_read_goals L)) := ⟨_, _, PySem.W.mg_of X G a_read_goals, k_read_goals, B_read_goals, ok_read_goals F_read_goals T h_Cursor_word h_check_room h_Cursor_go_on h_read_formula⟩
  have h_read_text : HasDef P w K mg base (L2.CX P w) 7 "read_text" ["data"] ((sp_read_text K L)) := ⟨_, _, PySem.W.mg_of X G a_read_text, k_read_text, B_read_text, ok_read_text F_read_text T TF h_Cursor___init__ h_all_tokens h_Held___init__ h_read_axioms h_read_rows h_read_goals h_Cursor_expect⟩
  have h_Desk___init__ : HasMake P w K mg base CX0 1 "Desk" L.Desk ["self"] ((sp_Desk_init L)) := ⟨_, _, ⟨mk_Desk, a_Desk___init__, i_Desk___init__, kc_Desk⟩, PySem.W.mg_of X G g_Desk, B_Desk___init__, ok_Desk_init F_Desk___init__ T⟩
  have h_Desk_load : HasMeth P w K mg base CX0 8 L.Desk "load" ["self", "data"] ((sp_load L)) := ⟨_, _, ⟨a_Desk_load, i_Desk_load, k_Desk_load⟩, B_Desk_load, ok_Desk_load F_Desk_load T TF h_read_text h_Held_axiom_count⟩
  have h_shown : HasDef P w K mg base CX0 4 "shown" ["held"] ((sp_shown L)) := ⟨_, _, PySem.W.mg_of X G a_shown, k_shown, B_shown, ok_shown F_shown T h_one_form⟩
  have h_has_number : HasDef P w K mg base CX0 1 "has_number" ["numbered", "number"] ((sp_has_number K)) := ⟨_, _, PySem.W.mg_of X G a_has_number, k_has_number, B_has_number, ok_has_number F_has_number T⟩
  have h_refused : HasDef P w K mg base CX0 2 "refused" ["held", "items"] ((sp_refused L)) := ⟨_, _, PySem.W.mg_of X G a_refused, k_refused, B_refused, ok_refused F_refused T h_has_number⟩
  have h_formula : HasDef P w K mg base CX0 3 "formula" ["held", "item"] ((sp_formula L)) := ⟨_, _, PySem.W.mg_of X G a_formula, k_formula, B_formula, ok_formula F_formula T h_refused h_told⟩
  have h_sizes : HasDef P w K mg base CX0 3 "sizes" ["held", "item"] ((sp_sizes L)) := ⟨_, _, PySem.W.mg_of X G a_sizes, k_sizes, B_sizes, ok_sizes F_sizes T h_has_number h_Held_axiom_count h_tree_sizes h_items_hung_on⟩
  have h_is_proved : HasDef P w K mg base CX0 4 "is_proved" ["goal", "general"] ((sp_is_proved K)) := ⟨_, _, PySem.W.mg_of X G a_is_proved, k_is_proved, B_is_proved, ok_is_proved F_is_proved T h_is_instance⟩
  have h_proves : HasDef P w K mg base CX0 5 "proves" ["held", "item", "goal"] ((sp_proves L)) := ⟨_, _, PySem.W.mg_of X G a_proves, k_proves, B_proves, ok_proves F_proves T h_has_number h_is_proved⟩
  have h_detach : HasDef P w K mg base CX0 4 "detach" ["held", "first", "second"] ((sp_detach L)) := ⟨_, _, PySem.W.mg_of X G a_detach, k_detach, B_detach, ok_detach F_detach T h_refused h_detached h_told⟩
  have h_compare : HasDef P w K mg base CX0 4 "compare" ["held", "first", "second"] ((sp_compare L)) := ⟨_, _, PySem.W.mg_of X G a_compare, k_compare, B_compare, ok_compare F_compare T h_refused h_is_instance⟩
  have h_needs : HasDef P w K mg base CX0 3 "needs" ["held", "item"] ((sp_needs L)) := ⟨_, _, PySem.W.mg_of X G a_needs, k_needs, B_needs, ok_needs F_needs T h_has_number h_items_hung_on⟩
  have h_first_proof : HasDef P w K mg base CX0 5 "first_proof" ["held", "goal"] ((sp_first_proof K L)) := ⟨_, _, PySem.W.mg_of X G a_first_proof, k_first_proof, B_first_proof, ok_first_proof F_first_proof T h_is_proved⟩
  have h_goals : HasDef P w K mg base CX0 6 "goals" ["held"] ((sp_goals L)) := ⟨_, _, PySem.W.mg_of X G a_goals, k_goals, B_goals, ok_goals F_goals T h_first_proof⟩
  have h_Desk_answer : HasMeth P w K mg base CX0 9 L.Desk "answer" ["self", "call", "given"] ((sp_answer L)) := ⟨_, _, ⟨a_Desk_answer, i_Desk_answer, k_Desk_answer⟩, B_Desk_answer, ok_Desk_answer F_Desk_answer T h_Desk_load h_shown h_formula h_sizes h_proves h_detach h_compare h_needs h_goals⟩
  exact ok_answers F_answers T TG h_Desk___init__ h_Desk_answer
end Dr

open PySem PySem.W PyProof.Rows
set_option maxRecDepth 100000 in
set_option maxHeartbeats 40000000 in
theorem PySem.Challenge.cw_detachedrows_s01_answers_holds : PySem.Challenge.rw_detachedrows_s01_answers.Holds := by
  w_on; k_headS; (case hw => exact ⟨[.list [.int 1]], by decide +kernel, by decide +kernel⟩)
  k_fillS
  refine L2.walk_specK (r := PySem.Challenge.rw_detachedrows_s01_answers) (k := 10) (CX := L2.CX0) (ps := ["calls"]) (sp := Dr.sp_answers) (by decide +kernel) rfl rfl ⟨rfl, by decide, by decide⟩ (fun w h Y => PySem.W.kIn_of Y) ?F ?S (fun _ _ _ _ z => z)
  case F =>
    intro w mg fa h Y KX G hmg
    refine' Dr.all_mk KX G hmg ?g_Fault ?g_Net ?g_Held ?g_Cursor ?g_Draft ?g_Desk ?a_Fault___init__ ?t_Fault___init__ ?a_unknown_sign ?l_unknown_sign ?c_unknown_sign ?k_unknown_sign ?a_is_unknown ?l_is_unknown ?c_is_unknown ?k_is_unknown ?a_told ?l_told ?c_told ?k_told ?a_part_end ?l_part_end ?c_part_end ?k_part_end ?a_is_instance ?l_is_instance ?c_is_instance ?k_is_instance ?a_written ?l_written ?c_written ?k_written ?a_bracketed ?l_bracketed ?c_bracketed ?k_bracketed ?a_Net___init__ ?i_Net___init__ ?l_Net___init__ ?c_Net___init__ ?k_Net___init__ ?a_Net_add_node ?i_Net_add_node ?l_Net_add_node ?c_Net_add_node ?k_Net_add_node ?a_Net_add_formula ?i_Net_add_formula ?l_Net_add_formula ?c_Net_add_formula ?k_Net_add_formula ?a_Net_leader ?i_Net_leader ?l_Net_leader ?c_Net_leader ?k_Net_leader ?a_Net_make_same ?i_Net_make_same ?l_Net_make_same ?c_Net_make_same ?k_Net_make_same ?a_Net_formula_of ?i_Net_formula_of ?l_Net_formula_of ?c_Net_formula_of ?k_Net_formula_of ?a_detached ?l_detached ?c_detached ?k_detached ?a_Held___init__ ?i_Held___init__ ?l_Held___init__ ?c_Held___init__ ?k_Held___init__ ?a_Held_axiom_count ?i_Held_axiom_count ?l_Held_axiom_count ?c_Held_axiom_count ?k_Held_axiom_count ?a_Held_add_axiom ?i_Held_add_axiom ?l_Held_add_axiom ?c_Held_add_axiom ?k_Held_add_axiom ?a_Held_add_row ?i_Held_add_row ?l_Held_add_row ?c_Held_add_row ?k_Held_add_row ?a_one_form ?l_one_form ?c_one_form ?k_one_form ?a_tree_sizes ?l_tree_sizes ?c_tree_sizes ?k_tree_sizes ?a_items_hung_on ?l_items_hung_on ?c_items_hung_on ?k_items_hung_on ?a_characters ?l_characters ?c_characters ?k_characters ?a_all_tokens ?l_all_tokens ?c_all_tokens ?k_all_tokens ?a_after_blanks ?l_after_blanks ?c_after_blanks ?k_after_blanks ?a_remark_end ?l_remark_end ?c_remark_end ?k_remark_end ?a_token_end ?l_token_end ?c_token_end ?k_token_end ?a_run_end ?l_run_end ?c_run_end ?k_run_end ?a_is_number ?l_is_number ?c_is_number ?k_is_number ?a_is_name ?l_is_name ?c_is_name ?k_is_name ?a_Cursor___init__ ?i_Cursor___init__ ?l_Cursor___init__ ?c_Cursor___init__ ?k_Cursor___init__ ?a_Cursor_word ?i_Cursor_word ?l_Cursor_word ?c_Cursor_word ?k_Cursor_word ?a_Cursor_here ?i_Cursor_here ?l_Cursor_here ?c_Cursor_here ?k_Cursor_here ?a_Cursor_go_on ?i_Cursor_go_on ?l_Cursor_go_on ?c_Cursor_go_on ?k_Cursor_go_on ?a_Cursor_expect ?i_Cursor_expect ?l_Cursor_expect ?c_Cursor_expect ?k_Cursor_expect ?a_Cursor_name ?i_Cursor_name ?l_Cursor_name ?c_Cursor_name ?k_Cursor_name ?a_Draft___init__ ?i_Draft___init__ ?l_Draft___init__ ?c_Draft___init__ ?k_Draft___init__ ?a_Draft_is_whole ?i_Draft_is_whole ?l_Draft_is_whole ?c_Draft_is_whole ?k_Draft_is_whole ?a_Draft_takes ?i_Draft_takes ?l_Draft_takes ?c_Draft_takes ?k_Draft_takes ?a_Draft_put ?i_Draft_put ?l_Draft_put ?c_Draft_put ?k_Draft_put ?a_Draft_put_bracket_end ?i_Draft_put_bracket_end ?l_Draft_put_bracket_end ?c_Draft_put_bracket_end ?k_Draft_put_bracket_end ?a_Draft_end_part ?i_Draft_end_part ?l_Draft_end_part ?c_Draft_end_part ?k_Draft_end_part ?a_read_formula ?l_read_formula ?c_read_formula ?k_read_formula ?a_read_text ?l_read_text ?c_read_text ?k_read_text ?a_read_axioms ?l_read_axioms ?c_read_axioms ?k_read_axioms ?a_read_axiom ?l_read_axiom ?c_read_axiom ?k_read_axiom ?a_read_rows ?l_read_rows ?c_read_rows ?k_read_rows ?a_read_goals ?l_read_goals ?c_read_goals ?k_read_goals ?a_check_room ?l_check_room ?c_check_room ?k_check_room ?a_read_new_name ?l_read_new_name ?c_read_new_name ?k_read_new_name ?a_read_item ?l_read_item ?c_read_item ?k_read_item ?a_Desk___init__ ?i_Desk___init__ ?l_Desk___init__ ?c_Desk___init__ ?k_Desk___init__ ?a_Desk_answer ?i_Desk_answer ?l_Desk_answer ?c_Desk_answer ?k_Desk_answer ?a_Desk_load ?i_Desk_load ?l_Desk_load ?c_Desk_load ?k_Desk_load ?a_has_number ?l_has_number ?c_has_number ?k_has_number ?a_shown ?l_shown ?c_shown ?k_shown ?a_refused ?l_refused ?c_refused ?k_refused ?a_formula ?l_formula ?c_formula ?k_formula ?a_sizes ?l_sizes ?c_sizes ?k_sizes ?a_is_proved ?l_is_proved ?c_is_proved ?k_is_proved ?a_proves ?l_proves ?c_proves ?k_proves ?a_detach ?l_detach ?c_detach ?k_detach ?a_compare ?l_compare ?c_compare ?k_compare ?a_needs ?l_needs ?c_needs ?k_needs ?a_goals ?l_goals ?c_goals ?k_goals ?a_first_proof ?l_first_proof ?c_first_proof ?k_first_proof ?a_answers ?l_answers ?c_answers ?k_answers ?xF ?saF ?gaF ?ggF ?n_Fault_code ?n_Fault_place ?kcF ?exF ?tyF ?hdF ?icF ?scF ?lF ?cF ?pg_Net ?hd_Net ?po_Net ?sa_Net ?mk_Net ?kc_Net ?n_Net_heads ?n_Net_parts ?n_Net_stands ?pg_Held ?hd_Held ?po_Held ?sa_Held ?mk_Held ?kc_Held ?n_Held_numbers ?n_Held_formulas ?n_Held_rows ?n_Held_goals ?pg_Cursor ?hd_Cursor ?po_Cursor ?sa_Cursor ?mk_Cursor ?kc_Cursor ?n_Cursor_tokens ?n_Cursor_at ?pg_Draft ?hd_Draft ?po_Draft ?sa_Draft ?mk_Draft ?kc_Draft ?n_Draft_signs ?n_Draft_unknowns ?n_Draft_around ?n_Draft_brackets ?n_Draft_ended ?n_Draft_begin ?pg_Desk ?hd_Desk ?po_Desk ?sa_Desk ?mk_Desk ?kc_Desk ?n_Desk_held ?v_IMPLIES ?v_DENIES ?v_FIRST_UNKNOWN ?v_MOST_FITTED ?v_MOST_DETACHED ?v_BLANKS ?v_REMARK ?v_SIGNS ?v_DIGITS ?v_LETTERS ?v_STRANGE ?v_END ?v_KEYWORDS ?w_KEYWORDS ?v_LONGEST_NAME ?v_GREATEST_NUMBER ?v_LONGEST_NUMBER ?v_MOST_SIGNS ?v_MOST_AROUND ?v_MOST_BYTES ?v_MOST_AXIOMS ?v_MOST_ROWS ?v_MOST_GOALS ?v_LOAD ?v_SHOWN ?v_FORMULA ?v_SIZES ?v_PROVES ?v_DETACH ?v_COMPARE ?v_NEEDS ?v_GIVEN ?w_GIVEN ?b_len ?b_ord ?b_int ?b_list ?b_sorted ?b_max ?b_reversed ?b_zip ?b_range ?b_enumerate
    (case g_Fault => k_is)
    (case g_Net => k_is)
    (case g_Held => k_is)
    (case g_Cursor => k_is)
    (case g_Draft => k_is)
    (case g_Desk => k_is)
    (case a_Fault___init__ => k_is)
    (case t_Fault___init__ => k_is)
    (case a_unknown_sign => k_is)
    (case l_unknown_sign => k_is)
    (case c_unknown_sign => k_is)
    (case k_unknown_sign => k_is)
    (case a_is_unknown => k_is)
    (case l_is_unknown => k_is)
    (case c_is_unknown => k_is)
    (case k_is_unknown => k_is)
    (case a_told => k_is)
    (case l_told => k_is)
    (case c_told => k_is)
    (case k_told => k_is)
    (case a_part_end => k_is)
    (case l_part_end => k_is)
    (case c_part_end => k_is)
    (case k_part_end => k_is)
    (case a_is_instance => k_is)
    (case l_is_instance => k_is)
    (case c_is_instance => k_is)
    (case k_is_instance => k_is)
    (case a_written => k_is)
    (case l_written => k_is)
    (case c_written => k_is)
    (case k_written => k_is)
    (case a_bracketed => k_is)
    (case l_bracketed => k_is)
    (case c_bracketed => k_is)
    (case k_bracketed => k_is)
    (case a_Net___init__ => k_is)
    (case i_Net___init__ => k_is)
    (case l_Net___init__ => k_is)
    (case c_Net___init__ => k_is)
    (case k_Net___init__ => k_is)
    (case a_Net_add_node => k_is)
    (case i_Net_add_node => k_is)
    (case l_Net_add_node => k_is)
    (case c_Net_add_node => k_is)
    (case k_Net_add_node => k_is)
    (case a_Net_add_formula => k_is)
    (case i_Net_add_formula => k_is)
    (case l_Net_add_formula => k_is)
    (case c_Net_add_formula => k_is)
    (case k_Net_add_formula => k_is)
    (case a_Net_leader => k_is)
    (case i_Net_leader => k_is)
    (case l_Net_leader => k_is)
    (case c_Net_leader => k_is)
    (case k_Net_leader => k_is)
    (case a_Net_make_same => k_is)
    (case i_Net_make_same => k_is)
    (case l_Net_make_same => k_is)
    (case c_Net_make_same => k_is)
    (case k_Net_make_same => k_is)
    (case a_Net_formula_of => k_is)
    (case i_Net_formula_of => k_is)
    (case l_Net_formula_of => k_is)
    (case c_Net_formula_of => k_is)
    (case k_Net_formula_of => k_is)
    (case a_detached => k_is)
    (case l_detached => k_is)
    (case c_detached => k_is)
    (case k_detached => k_is)
    (case a_Held___init__ => k_is)
    (case i_Held___init__ => k_is)
    (case l_Held___init__ => k_is)
    (case c_Held___init__ => k_is)
    (case k_Held___init__ => k_is)
    (case a_Held_axiom_count => k_is)
    (case i_Held_axiom_count => k_is)
    (case l_Held_axiom_count => k_is)
    (case c_Held_axiom_count => k_is)
    (case k_Held_axiom_count => k_is)
    (case a_Held_add_axiom => k_is)
    (case i_Held_add_axiom => k_is)
    (case l_Held_add_axiom => k_is)
    (case c_Held_add_axiom => k_is)
    (case k_Held_add_axiom => k_is)
    (case a_Held_add_row => k_is)
    (case i_Held_add_row => k_is)
    (case l_Held_add_row => k_is)
    (case c_Held_add_row => k_is)
    (case k_Held_add_row => k_is)
    (case a_one_form => k_is)
    (case l_one_form => k_is)
    (case c_one_form => k_is)
    (case k_one_form => k_is)
    (case a_tree_sizes => k_is)
    (case l_tree_sizes => k_is)
    (case c_tree_sizes => k_is)
    (case k_tree_sizes => k_is)
    (case a_items_hung_on => k_is)
    (case l_items_hung_on => k_is)
    (case c_items_hung_on => k_is)
    (case k_items_hung_on => k_is)
    (case a_characters => k_is)
    (case l_characters => k_is)
    (case c_characters => k_is)
    (case k_characters => k_is)
    (case a_all_tokens => k_is)
    (case l_all_tokens => k_is)
    (case c_all_tokens => k_is)
    (case k_all_tokens => k_is)
    (case a_after_blanks => k_is)
    (case l_after_blanks => k_is)
    (case c_after_blanks => k_is)
    (case k_after_blanks => k_is)
    (case a_remark_end => k_is)
    (case l_remark_end => k_is)
    (case c_remark_end => k_is)
    (case k_remark_end => k_is)
    (case a_token_end => k_is)
    (case l_token_end => k_is)
    (case c_token_end => k_is)
    (case k_token_end => k_is)
    (case a_run_end => k_is)
    (case l_run_end => k_is)
    (case c_run_end => k_is)
    (case k_run_end => k_is)
    (case a_is_number => k_is)
    (case l_is_number => k_is)
    (case c_is_number => k_is)
    (case k_is_number => k_is)
    (case a_is_name => k_is)
    (case l_is_name => k_is)
    (case c_is_name => k_is)
    (case k_is_name => k_is)
    (case a_Cursor___init__ => k_is)
    (case i_Cursor___init__ => k_is)
    (case l_Cursor___init__ => k_is)
    (case c_Cursor___init__ => k_is)
    (case k_Cursor___init__ => k_is)
    (case a_Cursor_word => k_is)
    (case i_Cursor_word => k_is)
    (case l_Cursor_word => k_is)
    (case c_Cursor_word => k_is)
    (case k_Cursor_word => k_is)
    (case a_Cursor_here => k_is)
    (case i_Cursor_here => k_is)
    (case l_Cursor_here => k_is)
    (case c_Cursor_here => k_is)
    (case k_Cursor_here => k_is)
    (case a_Cursor_go_on => k_is)
    (case i_Cursor_go_on => k_is)
    (case l_Cursor_go_on => k_is)
    (case c_Cursor_go_on => k_is)
    (case k_Cursor_go_on => k_is)
    (case a_Cursor_expect => k_is)
    (case i_Cursor_expect => k_is)
    (case l_Cursor_expect => k_is)
    (case c_Cursor_expect => k_is)
    (case k_Cursor_expect => k_is)
    (case a_Cursor_name => k_is)
    (case i_Cursor_name => k_is)
    (case l_Cursor_name => k_is)
    (case c_Cursor_name => k_is)
    (case k_Cursor_name => k_is)
    (case a_Draft___init__ => k_is)
    (case i_Draft___init__ => k_is)
    (case l_Draft___init__ => k_is)
    (case c_Draft___init__ => k_is)
    (case k_Draft___init__ => k_is)
    (case a_Draft_is_whole => k_is)
    (case i_Draft_is_whole => k_is)
    (case l_Draft_is_whole => k_is)
    (case c_Draft_is_whole => k_is)
    (case k_Draft_is_whole => k_is)
    (case a_Draft_takes => k_is)
    (case i_Draft_takes => k_is)
    (case l_Draft_takes => k_is)
    (case c_Draft_takes => k_is)
    (case k_Draft_takes => k_is)
    (case a_Draft_put => k_is)
    (case i_Draft_put => k_is)
    (case l_Draft_put => k_is)
    (case c_Draft_put => k_is)
    (case k_Draft_put => k_is)
    (case a_Draft_put_bracket_end => k_is)
    (case i_Draft_put_bracket_end => k_is)
    (case l_Draft_put_bracket_end => k_is)
    (case c_Draft_put_bracket_end => k_is)
    (case k_Draft_put_bracket_end => k_is)
    (case a_Draft_end_part => k_is)
    (case i_Draft_end_part => k_is)
    (case l_Draft_end_part => k_is)
    (case c_Draft_end_part => k_is)
    (case k_Draft_end_part => k_is)
    (case a_read_formula => k_is)
    (case l_read_formula => k_is)
    (case c_read_formula => k_is)
    (case k_read_formula => k_is)
    (case a_read_text => k_is)
    (case l_read_text => k_is)
    (case c_read_text => k_is)
    (case k_read_text => k_is)
    (case a_read_axioms => k_is)
    (case l_read_axioms => k_is)
    (case c_read_axioms => k_is)
    (case k_read_axioms => k_is)
    (case a_read_axiom => k_is)
    (case l_read_axiom => k_is)
    (case c_read_axiom => k_is)
    (case k_read_axiom => k_is)
    (case a_read_rows => k_is)
    (case l_read_rows => k_is)
    (case c_read_rows => k_is)
    (case k_read_rows => k_is)
    (case a_read_goals => k_is)
    (case l_read_goals => k_is)
    (case c_read_goals => k_is)
    (case k_read_goals => k_is)
    (case a_check_room => k_is)
    (case l_check_room => k_is)
    (case c_check_room => k_is)
    (case k_check_room => k_is)
    (case a_read_new_name => k_is)
    (case l_read_new_name => k_is)
    (case c_read_new_name => k_is)
    (case k_read_new_name => k_is)
    (case a_read_item => k_is)
    (case l_read_item => k_is)
    (case c_read_item => k_is)
    (case k_read_item => k_is)
    (case a_Desk___init__ => k_is)
    (case i_Desk___init__ => k_is)
    (case l_Desk___init__ => k_is)
    (case c_Desk___init__ => k_is)
    (case k_Desk___init__ => k_is)
    (case a_Desk_answer => k_is)
    (case i_Desk_answer => k_is)
    (case l_Desk_answer => k_is)
    (case c_Desk_answer => k_is)
    (case k_Desk_answer => k_is)
    (case a_Desk_load => k_is)
    (case i_Desk_load => k_is)
    (case l_Desk_load => k_is)
    (case c_Desk_load => k_is)
    (case k_Desk_load => k_is)
    (case a_has_number => k_is)
    (case l_has_number => k_is)
    (case c_has_number => k_is)
    (case k_has_number => k_is)
    (case a_shown => k_is)
    (case l_shown => k_is)
    (case c_shown => k_is)
    (case k_shown => k_is)
    (case a_refused => k_is)
    (case l_refused => k_is)
    (case c_refused => k_is)
    (case k_refused => k_is)
    (case a_formula => k_is)
    (case l_formula => k_is)
    (case c_formula => k_is)
    (case k_formula => k_is)
    (case a_sizes => k_is)
    (case l_sizes => k_is)
    (case c_sizes => k_is)
    (case k_sizes => k_is)
    (case a_is_proved => k_is)
    (case l_is_proved => k_is)
    (case c_is_proved => k_is)
    (case k_is_proved => k_is)
    (case a_proves => k_is)
    (case l_proves => k_is)
    (case c_proves => k_is)
    (case k_proves => k_is)
    (case a_detach => k_is)
    (case l_detach => k_is)
    (case c_detach => k_is)
    (case k_detach => k_is)
    (case a_compare => k_is)
    (case l_compare => k_is)
    (case c_compare => k_is)
    (case k_compare => k_is)
    (case a_needs => k_is)
    (case l_needs => k_is)
    (case c_needs => k_is)
    (case k_needs => k_is)
    (case a_goals => k_is)
    (case l_goals => k_is)
    (case c_goals => k_is)
    (case k_goals => k_is)
    (case a_first_proof => k_is)
    (case l_first_proof => k_is)
    (case c_first_proof => k_is)
    (case k_first_proof => k_is)
    (case a_answers => k_is)
    (case l_answers => k_is)
    (case c_answers => k_is)
    (case k_answers => k_is)
    (case xF => k_is)
    (case saF => k_is)
    (case gaF => k_is)
    (case ggF => k_is)
    (case n_Fault_code => k_is)
    (case n_Fault_place => k_is)
    (case kcF => k_is)
    (case exF => k_is)
    (case tyF => k_is)
    (case hdF => k_is)
    (case icF => k_is)
    (case scF => first | rfl | k_is)
    (case lF => k_is)
    (case cF => k_is)
    (case pg_Net => k_is)
    (case hd_Net => k_is)
    (case po_Net => k_is)
    (case sa_Net => k_is)
    (case mk_Net => k_is)
    (case kc_Net => k_is)
    (case n_Net_heads => k_is)
    (case n_Net_parts => k_is)
    (case n_Net_stands => k_is)
    (case pg_Held => k_is)
    (case hd_Held => k_is)
    (case po_Held => k_is)
    (case sa_Held => k_is)
    (case mk_Held => k_is)
    (case kc_Held => k_is)
    (case n_Held_numbers => k_is)
    (case n_Held_formulas => k_is)
    (case n_Held_rows => k_is)
    (case n_Held_goals => k_is)
    (case pg_Cursor => k_is)
    (case hd_Cursor => k_is)
    (case po_Cursor => k_is)
    (case sa_Cursor => k_is)
    (case mk_Cursor => k_is)
    (case kc_Cursor => k_is)
    (case n_Cursor_tokens => k_is)
    (case n_Cursor_at => k_is)
    (case pg_Draft => k_is)
    (case hd_Draft => k_is)
    (case po_Draft => k_is)
    (case sa_Draft => k_is)
    (case mk_Draft => k_is)
    (case kc_Draft => k_is)
    (case n_Draft_signs => k_is)
    (case n_Draft_unknowns => k_is)
    (case n_Draft_around => k_is)
    (case n_Draft_brackets => k_is)
    (case n_Draft_ended => k_is)
    (case n_Draft_begin => k_is)
    (case pg_Desk => k_is)
    (case hd_Desk => k_is)
    (case po_Desk => k_is)
    (case sa_Desk => k_is)
    (case mk_Desk => k_is)
    (case kc_Desk => k_is)
    (case n_Desk_held => k_is)
    (case v_IMPLIES => k_is)
    (case v_DENIES => k_is)
    (case v_FIRST_UNKNOWN => k_is)
    (case v_MOST_FITTED => k_is)
    (case v_MOST_DETACHED => k_is)
    (case v_BLANKS => k_is)
    (case v_REMARK => k_is)
    (case v_SIGNS => k_is)
    (case v_DIGITS => k_is)
    (case v_LETTERS => k_is)
    (case v_STRANGE => k_is)
    (case v_END => k_is)
    (case v_KEYWORDS => k_is)
    (case w_KEYWORDS => k_is)
    (case v_LONGEST_NAME => k_is)
    (case v_GREATEST_NUMBER => k_is)
    (case v_LONGEST_NUMBER => k_is)
    (case v_MOST_SIGNS => k_is)
    (case v_MOST_AROUND => k_is)
    (case v_MOST_BYTES => k_is)
    (case v_MOST_AXIOMS => k_is)
    (case v_MOST_ROWS => k_is)
    (case v_MOST_GOALS => k_is)
    (case v_LOAD => k_is)
    (case v_SHOWN => k_is)
    (case v_FORMULA => k_is)
    (case v_SIZES => k_is)
    (case v_PROVES => k_is)
    (case v_DETACH => k_is)
    (case v_COMPARE => k_is)
    (case v_NEEDS => k_is)
    (case v_GIVEN => k_is)
    (case w_GIVEN => k_is)
    (case b_len => k_is)
    (case b_ord => k_is)
    (case b_int => k_is)
    (case b_list => k_is)
    (case b_sorted => k_is)
    (case b_max => k_is)
    (case b_reversed => k_is)
    (case b_zip => k_is)
    (case b_range => k_is)
    (case b_enumerate => k_is)
  case S =>
    intro K H xs a hO hwi hask hx
    cases hx with
    | cons h1 h2 =>
      cases h2
      cases h1 with
      | lst hs ha =>
        have e := L2.ints_dw a.1 _ ha
        subst e
        exact ⟨_, a.1, rfl, hs, hask, fun H' p hp => .lst (L2.SqL.of hp) (L2.dw_ints _)⟩

