import PyProof.Rows.All
import HandS.ForMost
import HandS.ForExc
import HandS.Iter
import HandS.CallSlots
import KE.GoesEnumKw
import PyProof.Rows.CallKwBuiltin
import HandS.StrMore
import HandS.IsInst
import HandS.Defaults
import HandS.Head0
import HandS.Head1
import HandS.Head2
import HandS.HeadEnd
import HandS.HeadHook1
import HandS.HeadHook2
import HandS.HeadHook3
import HandS.HeadHook4
import HandS.HeadWalk
import HandS.EndBits
import PySem.Challenge.RW_sheetwatch_k00_tokens_of_rules
import Lean
section
set_option Elab.async false
set_option linter.all false
set_option maxRecDepth 100000
namespace PM
open PySem PySem.Spec PyProof.Rows L2

/-- a value of the plain layer: tuples stand in line, lists and dicts and instances by their place -/
inductive D where
  | non | bl (b : Bool) | int (i : Int) | str (x : Str) | tup (xs : List D) | ref (i : Nat) | fn (x : Str) | ty (n : String)

inductive Ob where
  | lst (xs : List D) | dic (kvs : List (Key × D)) | rdl (xs : List D) | ins (c : Str) (fs : List (Str × D))
def mu : Ob → Bool
  | .rdl _ => false
  | _ => true
abbrev HP := List Ob
abbrev SD := List (Option D)

/-! ### extension of the places, keeping of the tuples -/
def Ext (r r' : List Addr) : Prop := ∃ l, r' = r ++ l
theorem Ext.refl (r : List Addr) : Ext r r := ⟨[], by simp⟩
theorem Ext.trans {a b c : List Addr} (h : Ext a b) (k : Ext b c) : Ext a c := by
  obtain ⟨l, rfl⟩ := h
  obtain ⟨m, rfl⟩ := k
  exact ⟨l ++ m, by simp⟩
theorem Ext.get {r r' : List Addr} (h : Ext r r') {i : Nat} {a : Addr} (e : r[i]? = some a) : r'[i]? = some a := by
  obtain ⟨l, rfl⟩ := h
  have hi : i < r.length := by
    rcases Nat.lt_or_ge i r.length with h | h
    · exact h
    · rw [List.getElem?_eq_none h] at e; cases e
  rw [List.getElem?_append_left hi]; exact e
theorem Ext.one (r : List Addr) (p : Addr) : Ext r (r ++ [p]) := ⟨[p], rfl⟩

structure Keep (H H' : Hp) : Prop where
  tup : ∀ a xs, H a = some (.tup xs) → H' a = some (.tup xs)
  frz : ∀ a o u, H a = some (.frz o u) → H' a = some (.frz o u)
theorem Keep.refl (H : Hp) : Keep H H := ⟨fun _ _ e => e, fun _ _ _ e => e⟩
theorem Keep.trans {H H1 H2 : Hp} (a : Keep H H1) (b : Keep H1 H2) : Keep H H2 := ⟨fun x xs e => b.tup x xs (a.tup x xs e), fun x o u e => b.frz x o u (a.frz x o u e)⟩
theorem Keep.new {H : Hp} {p : Addr} {o : HO} (h : H p = none) : Keep H (upd H p o) :=
  ⟨fun a xs e => by rw [upd_ne (ne_of_none e h)]; exact e, fun a o u e => by rw [upd_ne (ne_of_none e h)]; exact e⟩
theorem Keep.mut {H : Hp} {p : Addr} {o u : HO} (h : H p = some u) (ht : ∀ xs, u ≠ .tup xs) (hf : ∀ ob v, u ≠ .frz ob v) : Keep H (upd H p o) :=
  ⟨fun a xs e => by rw [upd_ne (ne_of e h (fun z => ht xs z.symm))]; exact e, fun a ob v e => by rw [upd_ne (ne_of e h (fun z => hf ob v z.symm))]; exact e⟩
theorem Keep.sqT {K : PySem.W.Frag} {H H' : Hp} (k : Keep H H') {a : Addr} {xs : List V} (h : SqT K H a xs) : SqT K H' a xs := by
  rcases h with (h | ⟨o, h⟩) | h
  · exact .inl (.inl (k.tup a xs h))
  · exact .inl (.inr ⟨o, k.frz a o _ h⟩)
  · exact .inr h

/-! ### what stands for what -/
mutual
inductive RelD (K : PySem.W.Frag) (mg : Str → Option Value) (r : List Addr) (H : Hp) : D → V → Prop
  | non : RelD K mg r H .non .non
  | bl (b : Bool) : RelD K mg r H (.bl b) (.bl b)
  | int (i : Int) : RelD K mg r H (.int i) (.int i)
  | str (x : Str) : RelD K mg r H (.str x) (.str x)
  | tup {xs : List D} {a : Addr} {vs : List V} : SqT K H a vs → RelDs K mg r H xs vs → RelD K mg r H (.tup xs) (.ref a)
  | ref {i : Nat} {a : Addr} : r[i]? = some a → RelD K mg r H (.ref i) (.ref a)
  | fn {x : Str} {a : Addr} : mg x = some (.ref a) → RelD K mg r H (.fn x) (.ref a)
  | ty (n : String) : RelD K mg r H (.ty n) (.ty n)
inductive RelDs (K : PySem.W.Frag) (mg : Str → Option Value) (r : List Addr) (H : Hp) : List D → List V → Prop
  | nil : RelDs K mg r H [] []
  | cons {x : D} {v : V} {xs : List D} {vs : List V} : RelD K mg r H x v → RelDs K mg r H xs vs → RelDs K mg r H (x :: xs) (v :: vs)
end

section
variable {K : PySem.W.Frag} {mg : Str → Option Value} {r r' : List Addr} {H H' : Hp}
mutual
theorem RelD.mono (e : Ext r r') (k : Keep H H') {d : D} {v : V} (h : RelD K mg r H d v) : RelD K mg r' H' d v := match h with
  | .non => .non
  | .bl b => .bl b
  | .int i => .int i
  | .str x => .str x
  | .tup s t => .tup (k.sqT s) (RelDs.mono e k t)
  | .ref q => .ref (e.get q)
  | .fn q => .fn q
  | .ty n => .ty n
theorem RelDs.mono (e : Ext r r') (k : Keep H H') {d : List D} {v : List V} (h : RelDs K mg r H d v) : RelDs K mg r' H' d v := match h with
  | .nil => .nil
  | .cons a b => .cons (RelD.mono e k a) (RelDs.mono e k b)
end
theorem RelDs.length : ∀ {ds : List D} {vs : List V}, RelDs K mg r H ds vs → ds.length = vs.length
  | _, _, .nil => rfl
  | _, _, .cons _ t => by simp [RelDs.length t]
theorem RelDs.get : ∀ {ds : List D} {vs : List V} {i : Nat} {d : D}, RelDs K mg r H ds vs → ds[i]? = some d → ∃ v, vs[i]? = some v ∧ RelD K mg r H d v
  | _, _, _, _, .nil, h => by simp at h
  | _, _, 0, _, .cons a _, h => by simp at h; subst h; exact ⟨_, rfl, a⟩
  | _, _, i + 1, d, .cons _ t, h => by
    obtain ⟨v, e, q⟩ := RelDs.get (i := i) (d := d) t (by simpa using h)
    exact ⟨v, by simpa using e, q⟩
theorem RelDs.getV : ∀ {ds : List D} {vs : List V} {i : Nat} {v : V}, RelDs K mg r H ds vs → vs[i]? = some v → ∃ d, ds[i]? = some d ∧ RelD K mg r H d v
  | _, _, _, _, .nil, h => by simp at h
  | _, _, 0, _, .cons a _, h => by simp at h; subst h; exact ⟨_, rfl, a⟩
  | _, _, i + 1, v, .cons _ t, h => by
    obtain ⟨d, e, q⟩ := RelDs.getV (i := i) (v := v) t (by simpa using h)
    exact ⟨d, by simpa using e, q⟩
theorem RelDs.append : ∀ {ds es : List D} {vs us : List V}, RelDs K mg r H ds vs → RelDs K mg r H es us → RelDs K mg r H (ds ++ es) (vs ++ us)
  | _, _, _, _, .nil, h => h
  | _, _, _, _, .cons a t, h => .cons a (RelDs.append t h)
theorem RelDs.one {d : D} {v : V} (h : RelD K mg r H d v) : RelDs K mg r H [d] [v] := .cons h .nil
theorem RelDs.set : ∀ {ds : List D} {vs : List V} (i : Nat) {d : D} {v : V}, RelDs K mg r H ds vs → RelD K mg r H d v → RelDs K mg r H (ds.set i d) (vs.set i v)
  | _, _, _, _, _, .nil, _ => .nil
  | _, _, 0, _, _, .cons _ t, h => .cons h t
  | _, _, i + 1, _, _, .cons a t, h => .cons a (RelDs.set i t h)
theorem RelDs.strs : ∀ ys : List Str, RelDs K mg r H (ys.map D.str) (ys.map V.str)
  | [] => .nil
  | y :: ys => .cons (.str y) (RelDs.strs ys)
theorem RelDs.ints : ∀ ys : List Int, RelDs K mg r H (ys.map D.int) (ys.map V.int)
  | [] => .nil
  | y :: ys => .cons (.int y) (RelDs.ints ys)
/-- pairs: keys alike, values related -/
abbrev RelP {κ : Type} (K : PySem.W.Frag) (mg : Str → Option Value) (r : List Addr) (H : Hp) : List (κ × D) → List (κ × V) → Prop := Paired fun p q => p.1 = q.1 ∧ RelD K mg r H p.2 q.2
theorem RelP.mono {κ : Type} (e : Ext r r') (k : Keep H H') : ∀ {ds : List (κ × D)} {vs : List (κ × V)}, RelP K mg r H ds vs → RelP K mg r' H' ds vs
  | _, _, .nil => .nil
  | _, _, .cons a t => .cons ⟨a.1, a.2.mono e k⟩ (RelP.mono e k t)

def RepO (K : PySem.W.Frag) (mg : Str → Option Value) (r : List Addr) (H : Hp) (o : Ob) (a : Addr) : Prop := match o with
  | .lst xs => ∃ vs, H a = some (.lst vs) ∧ RelDs K mg r H xs vs
  | .dic kvs => ∃ vs, H a = some (.dK vs) ∧ RelP K mg r H kvs vs
  | .rdl xs => ∃ vs, ((∃ ob, H a = some (.frz ob (.lst vs))) ∨ SqL K (fun _ => none) a vs) ∧ RelDs K mg r H xs vs
  | .ins c fs => ∃ C dx vs, mg c = some (.ref C) ∧ H a = some (.ins C dx vs) ∧ RelP K mg r H fs vs

structure Rep (K : PySem.W.Frag) (mg : Str → Option Value) (r : List Addr) (h : HP) (H : Hp) : Prop where
  len : r.length = h.length
  obs : ∀ (i : Nat) (o : Ob) (a : Addr), h[i]? = some o → r[i]? = some a → RepO K mg r H o a
  inj : ∀ (i j : Nat) (a : Addr) (oi oj : Ob), h[i]? = some oi → h[j]? = some oj → mu oi = true → mu oj = true → r[i]? = some a → r[j]? = some a → i = j

theorem RepO.mono {o : Ob} {a : Addr} (e : Ext r r') (k : Keep H H') (s : mu o = true → H' a = H a) (h : RepO K mg r H o a) : RepO K mg r' H' o a := by
  cases o with
  | lst xs => obtain ⟨vs, q, t⟩ := h; exact ⟨vs, by rw [s rfl]; exact q, t.mono e k⟩
  | dic kvs => obtain ⟨vs, q, t⟩ := h; exact ⟨vs, by rw [s rfl]; exact q, RelP.mono e k t⟩
  | rdl xs =>
    obtain ⟨vs, q, t⟩ := h
    refine ⟨vs, ?_, t.mono e k⟩
    rcases q with ⟨ob, q⟩ | q
    · exact .inl ⟨ob, k.frz a ob _ q⟩
    · exact .inr q
  | ins c fs => obtain ⟨C, dx, vs, q1, q, t⟩ := h; exact ⟨C, dx, vs, q1, by rw [s rfl]; exact q, RelP.mono e k t⟩
/-- what a changing object is at its address -/
theorem RepO.some {o : Ob} {a : Addr} (m : mu o = true) (h : RepO K mg r H o a) : ∃ u, H a = some u ∧ (∀ xs, u ≠ .tup xs) ∧ (∀ ob v, u ≠ .frz ob v) := by
  cases o with
  | lst xs => obtain ⟨vs, q, t⟩ := h; exact ⟨_, q, ⟨fun _ z => (by cases z), fun _ _ z => (by cases z)⟩⟩
  | dic kvs => obtain ⟨vs, q, t⟩ := h; exact ⟨_, q, ⟨fun _ z => (by cases z), fun _ _ z => (by cases z)⟩⟩
  | rdl xs => cases m
  | ins c fs => obtain ⟨C, dx, vs, q1, q, t⟩ := h; exact ⟨_, q, ⟨fun _ z => (by cases z), fun _ _ z => (by cases z)⟩⟩

variable {h : HP} {o : Ob} {p a : Addr}
theorem Rep.at (R : Rep K mg r h H) {i : Nat} (e : h[i]? = some o) : ∃ a, r[i]? = some a ∧ RepO K mg r H o a := by
  have hi : i < h.length := by
    rcases Nat.lt_or_ge i h.length with q | q
    · exact q
    · rw [List.getElem?_eq_none q] at e; cases e
  have hr : i < r.length := by rw [R.len]; exact hi
  exact ⟨r[i], List.getElem?_eq_getElem hr, R.obs i o _ e (List.getElem?_eq_getElem hr)⟩
theorem Rep.ob (R : Rep K mg r h H) {i : Nat} (e : r[i]? = some a) : ∃ o, h[i]? = some o ∧ RepO K mg r H o a := by
  have hi : i < r.length := by
    rcases Nat.lt_or_ge i r.length with q | q
    · exact q
    · rw [List.getElem?_eq_none q] at e; cases e
  have hr : i < h.length := by rw [← R.len]; exact hi
  exact ⟨h[i], List.getElem?_eq_getElem hr, R.obs i _ _ (List.getElem?_eq_getElem hr) e⟩
/-- a new object that the plain heap does not tell of -/
theorem Rep.fresh (R : Rep K mg r h H) {u : HO} (hp : H p = none) : Rep K mg r h (upd H p u) := by
  refine ⟨R.len, fun i o a e1 e2 => (R.obs i o a e1 e2).mono (Ext.refl r) (Keep.new hp) fun m => ?_, R.inj⟩
  obtain ⟨w, q, _⟩ := (R.obs i o a e1 e2).some m
  rw [upd_ne (ne_of_none q hp)]
theorem get_snoc {α : Type} {l : List α} {x y : α} {i : Nat} (h : (l ++ [x])[i]? = some y) : (i < l.length ∧ l[i]? = some y) ∨ (i = l.length ∧ x = y) := by
  rcases Nat.lt_trichotomy i l.length with q | q | q
  · rw [List.getElem?_append_left q] at h; exact .inl ⟨q, h⟩
  · subst q; rw [List.getElem?_append_right (Nat.le_refl _)] at h; simp at h; exact .inr ⟨rfl, h⟩
  · rw [List.getElem?_eq_none (by simp; omega)] at h; cases h
theorem Rep.new (R : Rep K mg r h H) {u : HO} (hp : H p = none) (q : RepO K mg (r ++ [p]) (upd H p u) o p) : Rep K mg (r ++ [p]) (h ++ [o]) (upd H p u) := by
  have old : ∀ {i : Nat} {a : Addr} {o' : Ob}, h[i]? = some o' → r[i]? = some a → mu o' = true → a ≠ p := fun e1 e2 m => by
    obtain ⟨w, q, _⟩ := (R.obs _ _ _ e1 e2).some m
    exact ne_of_none q hp
  refine ⟨by simp [R.len], fun i o' a e1 e2 => ?_, fun i j a oi oj e1 e2 m1 m2 e3 e4 => ?_⟩
  · rcases get_snoc e1 with ⟨l1, e1⟩ | ⟨l1, e1⟩
    · rcases get_snoc e2 with ⟨l2, e2⟩ | ⟨l2, e2⟩
      · refine (R.obs i o' a e1 e2).mono (Ext.one r p) (Keep.new hp) fun m => ?_
        rw [upd_ne (old e1 e2 m)]
      · rw [R.len] at l2; omega
    · rcases get_snoc e2 with ⟨l2, e2⟩ | ⟨l2, e2⟩
      · rw [R.len] at l2; omega
      · subst e1 e2; exact q
  · rcases get_snoc e1 with ⟨l1, e1⟩ | ⟨l1, e1⟩
    · rcases get_snoc e3 with ⟨_, e3⟩ | ⟨l3, _⟩
      · rcases get_snoc e2 with ⟨l2, e2⟩ | ⟨l2, e2⟩
        · rcases get_snoc e4 with ⟨_, e4⟩ | ⟨l4, _⟩
          · exact R.inj i j a oi oj e1 e2 m1 m2 e3 e4
          · rw [R.len] at l4; omega
        · rcases get_snoc e4 with ⟨l4, _⟩ | ⟨_, e4⟩
          · rw [R.len] at l4; omega
          · exact absurd e4.symm (old e1 e3 m1)
      · rw [R.len] at l3; omega
    · rcases get_snoc e3 with ⟨l3, _⟩ | ⟨_, e3⟩
      · rw [R.len] at l3; omega
      · rcases get_snoc e2 with ⟨l2, e2⟩ | ⟨l2, e2⟩
        · rcases get_snoc e4 with ⟨_, e4⟩ | ⟨l4, _⟩
          · exact absurd e3.symm (old e2 e4 m2)
          · rw [R.len] at l4; omega
        · omega
theorem get_set {α : Type} {l : List α} {x y : α} {i j : Nat} (h : (l.set i x)[j]? = some y) : (i = j ∧ x = y) ∨ (i ≠ j ∧ l[j]? = some y) := by
  by_cases e : i = j
  · subst e
    by_cases hi : i < l.length
    · rw [List.getElem?_set_self hi] at h; exact .inl ⟨rfl, Option.some.inj h⟩
    · rw [List.getElem?_eq_none (by simpa using hi)] at h; cases h
  · rw [List.getElem?_set_ne e] at h; exact .inr ⟨e, h⟩
theorem Rep.set (R : Rep K mg r h H) {u : HO} {o' : Ob} {i : Nat} (e : h[i]? = some o) (m : mu o = true) (m' : mu o' = true) (ea : r[i]? = some a) (q : Keep H (upd H a u) → RepO K mg r (upd H a u) o' a) : Rep K mg r (h.set i o') (upd H a u) ∧ Keep H (upd H a u) := by
  obtain ⟨w, q1, q2, q3⟩ := (R.obs i o a e ea).some m
  have k : Keep H (upd H a u) := Keep.mut q1 q2 q3
  refine ⟨⟨by simp [R.len], fun j o2 b e1 e2 => ?_, fun j l b oj ol e1 e2 m1 m2 e3 e4 => ?_⟩, k⟩
  · rcases get_set e1 with ⟨e1, e5⟩ | ⟨n, e1⟩
    · subst e1 e5
      rw [ea] at e2; cases e2
      exact q k
    · refine (R.obs j o2 b e1 e2).mono (Ext.refl r) k fun m2 => ?_
      have : b ≠ a := fun z => by subst z; exact n (R.inj i j b o o2 e e1 m m2 ea e2)
      rw [upd_ne this]
  · have f : ∀ {j : Nat} {oj : Ob}, (h.set i o')[j]? = some oj → mu oj = true → ∃ o2, h[j]? = some o2 ∧ mu o2 = true := fun {j oj} e1 m1 => by
      rcases get_set e1 with ⟨e1, _⟩ | ⟨_, e1⟩
      · subst e1; exact ⟨o, e, m⟩
      · exact ⟨oj, e1, m1⟩
    obtain ⟨a1, b1, c1⟩ := f e1 m1
    obtain ⟨a2, b2, c2⟩ := f e2 m2
    exact R.inj j l b a1 a2 b1 b2 c1 c2 e3 e4
end
end PM
end
section
set_option Elab.async false
set_option linter.all false
set_option maxRecDepth 100000
set_option maxHeartbeats 1000000
namespace PM
open PySem PySem.Spec PyProof.Rows L2

/-! ### results -/
inductive R (α : Type) where
  | ok (a : α) (h : HP) | exc (c : Str) (fs : List (Str × D)) (h : HP) | bad
def R.bind {α β : Type} (x : R α) (k : α → HP → R β) : R β := match x with
  | .ok a h => k a h
  | .exc c fs h => .exc c fs h
  | .bad => .bad
inductive RS where
  | nx (s : SD) (h : HP) | rt (d : D) (h : HP) | bk (s : SD) (h : HP) | ct (s : SD) (h : HP) | exc (s : SD) (c : Str) (fs : List (Str × D)) (h : HP) | bad
def RS.seq (x : RS) (k : SD → HP → RS) : RS := match x with
  | .nx s h => k s h
  | .rt d h => .rt d h
  | .bk s h => .bk s h
  | .ct s h => .ct s h
  | .exc s c fs h => .exc s c fs h
  | .bad => .bad
def R.toS {α : Type} (x : R α) (s : SD) (k : α → HP → RS) : RS := match x with
  | .ok a h => k a h
  | .exc c fs h => .exc s c fs h
  | .bad => .bad
def ofO (x : Option (D × HP)) : R D := match x with
  | some (d, h) => .ok d h
  | none => .bad
abbrev MS := SD → HP → RS
abbrev ME := SD → HP → R D
abbrev MA := SD → HP → R (List D)
abbrev MT := SD → HP → R Bool

structure RR (α β : Type) where
  rel : PySem.W.Frag → (Str → Option Value) → List Addr → Hp → α → β → Prop
  mono : ∀ {K : PySem.W.Frag} {mg : Str → Option Value} {r r' : List Addr} {H H' : Hp} {a : α} {b : β}, Ext r r' → Keep H H' → rel K mg r H a b → rel K mg r' H' a b
def rD : RR D V := ⟨RelD, fun e k h => h.mono e k⟩
def rDs : RR (List D) (List V) := ⟨RelDs, fun e k h => h.mono e k⟩
def rEqq (α : Type) : RR α α := ⟨fun _ _ _ _ a b => a = b, fun _ _ h => h⟩
abbrev rB : RR Bool Bool := rEqq Bool
abbrev rOI : RR (Option Int) (Option Int) := rEqq (Option Int)

structure RelSt (K : PySem.W.Frag) (mg : Str → Option Value) (r : List Addr) (H : Hp) (s : SD) (σ : L2.St) : Prop where
  len : s.length = σ.length
  at' : ∀ (i : Nat) (d : D), s[i]? = some (some d) → ∃ v, σ[i]? = some (some v) ∧ RelD K mg r H d v
/-- an error: its class by name, its fields -/
def XRel (K : PySem.W.Frag) (mg : Str → Option Value) (r : List Addr) (H : Hp) (c : Str) (fs : List (Str × D)) (cls : Value) (dd : Option Addr) : Prop :=
  ∃ C, mg c = some (.ref C) ∧ cls = .ref C ∧ ∃ d vs, dd = some d ∧ H d = some (.xd vs) ∧ RelP K mg r H fs vs

section
variable {K : PySem.W.Frag} {mg : Str → Option Value} {r r' r1 : List Addr} {H H' H1 : Hp} {h : HP} {s : SD} {σ : L2.St} {α β γ δ : Type} {W : WX}
theorem RelSt.mono (e : Ext r r') (k : Keep H H') (h : RelSt K mg r H s σ) : RelSt K mg r' H' s σ := ⟨h.len, fun i d q => let ⟨v, a, b⟩ := h.at' i d q; ⟨v, a, b.mono e k⟩⟩
theorem RelSt.set (h : RelSt K mg r H s σ) (i : Nat) {d : D} {v : V} (q : RelD K mg r H d v) : RelSt K mg r H (s.set i (some d)) (σ.set i (some v)) := by
  refine ⟨by simp [h.len], fun j d' e => ?_⟩
  rcases get_set e with ⟨e1, e2⟩ | ⟨n, e⟩
  · subst e1
    have hi : i < σ.length := by
      rw [← h.len]
      rcases Nat.lt_or_ge i s.length with q | q
      · exact q
      · rw [List.getElem?_eq_none (by simpa using q)] at e; cases e
    cases e2
    exact ⟨v, by rw [List.getElem?_set_self hi], q⟩
  · obtain ⟨v', a, b⟩ := h.at' j d' e
    exact ⟨v', by rw [List.getElem?_set_ne n]; exact a, b⟩
theorem RelSt.unset (h : RelSt K mg r H s σ) (i : Nat) : RelSt K mg r H (s.set i none) (σ.set i none) := by
  refine ⟨by simp [h.len], fun j d' e => ?_⟩
  rcases get_set e with ⟨e1, e2⟩ | ⟨n, e⟩
  · cases e2
  · obtain ⟨v', a, b⟩ := h.at' j d' e
    exact ⟨v', by rw [List.getElem?_set_ne n]; exact a, b⟩

def Post (K : PySem.W.Frag) (mg : Str → Option Value) (rr : RR α β) (W : WX) (r : List Addr) (σ : L2.St) (H : Hp) (Q : β → Hp → Prop) (x : R α) : Prop := match x with
  | .ok a h' => ∀ r' b H', Ext r r' → Keep H H' → Rep K mg r' h' H' → rr.rel K mg r' H' a b → Q b H'
  | .exc c fs h' => ∀ r' cls dd H', Ext r r' → Keep H H' → Rep K mg r' h' H' → XRel K mg r' H' c fs cls dd → W cls dd σ H'
  | .bad => False
def tM (K : PySem.W.Frag) (mg : Str → Option Value) (rr : RR α β) (W : WX) (m : SD → HP → R α) : L2.St → Hp → (β → Hp → Prop) → Prop := fun σ H Q =>
  ∃ r s h, Rep K mg r h H ∧ RelSt K mg r H s σ ∧ Post K mg rr W r σ H Q (m s h)

theorem Post.mono {rr : RR α β} {Q : β → Hp → Prop} {x : R α} (p : Post K mg rr W r σ H Q x) (e : Ext r r1) (k : Keep H H1) : Post K mg rr W r1 σ H1 Q x := by
  cases x with
  | ok a h' => exact fun r' b H' e' k' => p r' b H' (e.trans e') (k.trans k')
  | exc c fs h' => exact fun r' cls dd H' e' k' => p r' cls dd H' (e.trans e') (k.trans k')
  | bad => exact p
theorem Post.imp {rr : RR α β} {Q Q' : β → Hp → Prop} {x : R α} (p : Post K mg rr W r σ H Q x) (q : ∀ b H', Q b H' → Q' b H') : Post K mg rr W r σ H Q' x := by
  cases x with
  | ok a h' => exact fun r' b H' e' k' rp rl => q _ _ (p r' b H' e' k' rp rl)
  | exc c fs h' => exact p
  | bad => exact p
theorem Post.bind {rr1 : RR α β} {rr2 : RR γ δ} {Q : δ → Hp → Prop} {x : R α} {k : α → HP → R γ} (p : Post K mg rr2 W r σ H Q (x.bind k)) :
    Post K mg rr1 W r σ H (fun b H1 => ∃ r1 a h1, Ext r r1 ∧ Keep H H1 ∧ Rep K mg r1 h1 H1 ∧ rr1.rel K mg r1 H1 a b ∧ Post K mg rr2 W r1 σ H1 Q (k a h1)) x := by
  cases x with
  | ok a h' => exact fun r' b H' e' k' rp rl => ⟨r', a, h', e', k', rp, rl, Post.mono p e' k'⟩
  | exc c fs h' => exact p
  | bad => exact p
/-- the first of two steps -/
theorem tM.bind {rr1 : RR α β} {rr2 : RR γ δ} {Q : δ → Hp → Prop} {m : SD → HP → R α} {k : SD → α → HP → R γ} (t : tM K mg rr2 W (fun s h => (m s h).bind (k s)) σ H Q) :
    tM K mg rr1 W m σ H (fun b H1 => ∃ r1 s a h1, Rep K mg r1 h1 H1 ∧ RelSt K mg r1 H1 s σ ∧ rr1.rel K mg r1 H1 a b ∧ Post K mg rr2 W r1 σ H1 Q (k s a h1)) := by
  obtain ⟨r, s, h, rp, rs, p⟩ := t
  exact ⟨r, s, h, rp, rs, (Post.bind (rr1 := rr1) p).imp fun b H' ⟨r1, a, h1, e, k, rp, rl, q⟩ => ⟨r1, s, a, h1, rp, rs.mono e k, rl, q⟩⟩
/-- a value at hand -/
theorem Post.here {rr : RR α β} {Q : β → Hp → Prop} {a : α} {b : β} (p : Post K mg rr W r σ H Q (.ok a h)) (rp : Rep K mg r h H) (rl : rr.rel K mg r H a b) : Q b H := p r b H (Ext.refl r) (Keep.refl H) rp rl

/-! ### values alone (no error) -/
def PostV (K : PySem.W.Frag) (mg : Str → Option Value) (r : List Addr) (H : Hp) (Q : VK) (x : Option (D × HP)) : Prop := match x with
  | some (d, h') => ∀ r' v H', Ext r r' → Keep H H' → Rep K mg r' h' H' → RelD K mg r' H' d v → Q v H'
  | none => False
theorem Post.ofO {Q : VK} {x : Option (D × HP)} (p : Post K mg rD W r σ H Q (ofO x)) : PostV K mg r H Q x := by
  cases x with
  | none => exact p
  | some y => obtain ⟨d, h'⟩ := y; exact p
theorem PostV.mono {Q : VK} {x : Option (D × HP)} (p : PostV K mg r H Q x) (e : Ext r r1) (k : Keep H H1) : PostV K mg r1 H1 Q x := by
  cases x with
  | none => exact p
  | some y => obtain ⟨d, h'⟩ := y; exact fun r' v H' e' k' => p r' v H' (e.trans e') (k.trans k')
theorem PostV.here {Q : VK} {d : D} {v : V} (p : PostV K mg r H Q (some (d, h))) (rp : Rep K mg r h H) (rl : RelD K mg r H d v) : Q v H := p r v H (Ext.refl r) (Keep.refl H) rp rl
/-- a new list (a new object of the plain heap) -/
theorem PostV.lst {Q : VK} {xs : List D} {vs : List V} {p : Addr} (q : PostV K mg r H Q (some (.ref h.length, h ++ [.lst xs]))) (rp : Rep K mg r h H) (rl : RelDs K mg r H xs vs) (hp : H p = none) : Q (.ref p) (upd H p (.lst vs)) := by
  refine q (r ++ [p]) _ _ (Ext.one r p) (Keep.new hp) (rp.new hp ⟨vs, upd_same, rl.mono (Ext.one r p) (Keep.new hp)⟩) (.ref ?_)
  rw [List.getElem?_append_right (by rw [rp.len]; exact Nat.le_refl _), rp.len]; simp
/-- a new tuple -/
theorem PostV.tup {Q : VK} {xs : List D} {vs : List V} {p : Addr} (q : PostV K mg r H Q (some (.tup xs, h))) (rp : Rep K mg r h H) (rl : RelDs K mg r H xs vs) (hp : H p = none) : Q (.ref p) (upd H p (.tup vs)) :=
  q r _ _ (Ext.refl r) (Keep.new hp) (rp.fresh hp) (.tup (SqT.of upd_same) (rl.mono (Ext.refl r) (Keep.new hp)))

def rV2 (K : PySem.W.Frag) (mg : Str → Option Value) (g : D → D → HP → Option (D × HP)) : R2 := fun x y H Q => ∃ r a b h, Rep K mg r h H ∧ RelD K mg r H a x ∧ RelD K mg r H b y ∧ PostV K mg r H Q (g a b h)
def rV1 (K : PySem.W.Frag) (mg : Str → Option Value) (g : D → HP → Option (D × HP)) : V → Hp → VK → Prop := fun x H Q => ∃ r a h, Rep K mg r h H ∧ RelD K mg r H a x ∧ PostV K mg r H Q (g a h)
def rVs (K : PySem.W.Frag) (mg : Str → Option Value) (g : List D → HP → Option (D × HP)) : List V → Hp → VK → Prop := fun xs H Q => ∃ r ds h, Rep K mg r h H ∧ RelDs K mg r H ds xs ∧ PostV K mg r H Q (g ds h)
def rVm (K : PySem.W.Frag) (mg : Str → Option Value) (g : D → List D → HP → Option (D × HP)) : V → List V → Hp → VK → Prop := fun x xs H Q => ∃ r d ds h, Rep K mg r h H ∧ RelD K mg r H d x ∧ RelDs K mg r H ds xs ∧ PostV K mg r H Q (g d ds h)
end

/-! ### the steps of plain code -/
def mVar (i : Nat) : ME := fun s h => match s[i]? with
  | some (some d) => .ok d h
  | _ => .bad
def mC (d : D) : ME := fun _ h => .ok d h
def m1 (g : D → HP → Option (D × HP)) (a : ME) : ME := fun s h => (a s h).bind fun x h => ofO (g x h)
def m2 (g : D → D → HP → Option (D × HP)) (a b : ME) : ME := fun s h => (a s h).bind fun x h => (b s h).bind fun y h => ofO (g x y h)
def mNil : MA := fun _ h => .ok [] h
def mCons (a : ME) (t : MA) : MA := fun s h => (a s h).bind fun x h => (t s h).bind fun xs h => .ok (x :: xs) h
def mCall (g : List D → HP → R D) (t : MA) : ME := fun s h => (t s h).bind g
def mB (g : List D → HP → Option (D × HP)) (t : MA) : ME := fun s h => (t s h).bind fun xs h => ofO (g xs h)
def mMt (g : D → List D → HP → Option (D × HP)) (a : ME) (t : MA) : ME := fun s h => (a s h).bind fun x h => (t s h).bind fun xs h => ofO (g x xs h)
def kBl (x : D) (h : HP) : R Bool := match x with
  | .bl b => .ok b h
  | _ => .bad
def mTest (a : ME) : MT := fun s h => (a s h).bind kBl
def mNot (a : MT) : MT := fun s h => (a s h).bind fun b h => .ok (!b) h
def mAnd (a b : MT) : MT := fun s h => (a s h).bind fun x h => bif x then b s h else .ok false h
def mOr (a b : MT) : MT := fun s h => (a s h).bind fun x h => bif x then .ok true h else b s h
def mIfE (c : MT) (a b : ME) : ME := fun s h => (c s h).bind fun x h => bif x then a s h else b s h
def mAndV (a b : ME) : ME := fun s h => ((a s h).bind kBl).bind fun x h => bif x then b s h else .ok (.bl false) h
def mOrV (a b : ME) : ME := fun s h => ((a s h).bind kBl).bind fun x h => bif x then .ok (.bl true) h else b s h
def mNotV (a : ME) : ME := fun s h => ((a s h).bind kBl).bind fun x h => .ok (.bl (!x)) h
def mTup (t : MA) : ME := fun s h => (t s h).bind fun xs h => if xs.length ≤ 1000000 then .ok (.tup xs) h else .bad
def mLst (t : MA) : ME := fun s h => (t s h).bind fun xs h => if xs.length ≤ 1000000 then .ok (.ref h.length) (h ++ [.lst xs]) else .bad
abbrev MO := SD → HP → R (Option Int)
def mNoPart : MO := fun _ h => .ok none h
def kInt (x : D) (h : HP) : R (Option Int) := match x with
  | .int i => .ok (some i) h
  | _ => .bad
def mPart (a : ME) : MO := fun s h => (a s h).bind kInt
def mSl (g : D → Option Int → Option Int → HP → Option (D × HP)) (a : ME) (l u : MO) : ME := fun s h => (a s h).bind fun x h => (l s h).bind fun lo h => (u s h).bind fun hi h => ofO (g x lo hi h)

theorem line_of {n : Nat} (h : n ≤ 1000000) : n ≤ sizeLine := by rw [sizeLine_eq]; omega
theorem line_lt {n : Nat} (h : n < 1000000) : n < sizeLine := by rw [sizeLine_eq]; omega

theorem _root_.L2.PE.imp {X : Cx} {e : Expr} {t t' : TE} (h : PE X e t) (f : ∀ σ H Q, t' σ H Q → t σ H Q) : PE X e t' := ⟨fun pins s σ H Q I q => h.run pins s σ H Q I (f σ H Q q)⟩
theorem _root_.L2.PT.imp {X : Cx} {e : Expr} {t t' : TT} (h : PT X e t) (f : ∀ σ H Q, t' σ H Q → t σ H Q) : PT X e t' := ⟨fun pins s σ H Q I q => h.run pins s σ H Q I (f σ H Q q)⟩
theorem _root_.L2.PW.imp {X : Cx} {e : Expr} {t t' : TT} (h : PW X e t) (f : ∀ σ H Q, t' σ H Q → t σ H Q) : PW X e t' := ⟨fun w pins s σ H Q I q => h.run w pins s σ H Q I (f σ H Q q)⟩
theorem _root_.L2.PA.imp {X : Cx} {e : List Expr} {t t' : TA} (h : PA X e t) (f : ∀ σ H Q, t' σ H Q → t σ H Q) : PA X e t' := ⟨fun pos pins s σ H Q I q => h.run pos pins s σ H Q I (f σ H Q q)⟩
theorem _root_.L2.PO.imp {X : Cx} {e : Option Expr} {t t' : TO} (h : PO X e t) (f : ∀ σ H Q, t' σ H Q → t σ H Q) : PO X e t' := ⟨fun pins s σ H Q I q => h.run pins s σ H Q I (f σ H Q q)⟩
theorem _root_.L2.PS.imp {X : Cx} {e : Stmt} {t t' : TS} (h : PS X e t) (f : ∀ D σ H, t' D σ H → t D σ H) : PS X e t' := ⟨fun pins s σ H D I q => h.run pins s σ H D I (f D σ H q)⟩
theorem _root_.L2.PSs.imp {X : Cx} {e : List Stmt} {t t' : TS} (h : PSs X e t) (f : ∀ D σ H, t' D σ H → t D σ H) : PSs X e t' := ⟨fun pins s σ H D I q => h.run pins s σ H D I (f D σ H q)⟩

section
variable {X : Cx} {W : WX} {a b c e : Expr} {es rest : List Expr} {ma mb mc : ME} {ta tb : MT} {t : MA} {pos : Pos}
abbrev QE (X : Cx) (W : WX) (e : Expr) (m : ME) : Prop := PE X e (tM X.K X.mg rD W m)
abbrev QT (X : Cx) (W : WX) (e : Expr) (m : MT) : Prop := PT X e (tM X.K X.mg rB W m)
abbrev QW (X : Cx) (W : WX) (e : Expr) (m : MT) : Prop := PW X e (tM X.K X.mg rB W m)
abbrev QA (X : Cx) (W : WX) (es : List Expr) (m : MA) : Prop := PA X es (tM X.K X.mg rDs W m)
abbrev QO (X : Cx) (W : WX) (e : Option Expr) (m : MO) : Prop := PO X e (tM X.K X.mg rOI W m)

theorem qe_var {i : Nat} {x : Str} (hN : X.N[i]? = some x := by rfl) (hv : Vis X.env.scope x := by first | exact Or.inl rfl | exact Or.inr (Or.inl rfl) | exact Or.inr (Or.inr rfl)) (hd : (x == ("__debug__" : Str)) = false := by decide)
    (hcd : (x == ("__classdict__" : Str)) = false := by decide) : QE X W (.Name x pos) (mVar i) := (pe_var hN hv hd hcd).imp fun σ H Q ⟨r, s, h, rp, rs, p⟩ => by
  unfold mVar at p
  cases q : s[i]? with
  | none => rw [q] at p; exact p.elim
  | some o =>
    cases o with
    | none => rw [q] at p; exact p.elim
    | some d =>
      rw [q] at p
      obtain ⟨v, e1, e2⟩ := rs.at' i d q
      exact ⟨v, e1, Post.here p rp e2⟩
theorem qe_const {d : D} {v : V} (hp : PE X e (tC v)) (hd : ∀ r H, RelD X.K X.mg r H d v) : QE X W e (mC d) := hp.imp fun σ H Q ⟨r, s, h, rp, rs, p⟩ => Post.here p rp (hd r H)
theorem qe_int {i : Int} {j} : QE X W (.Constant (.int i) j pos) (mC (.int i)) := qe_const pe_int fun _ _ => .int i
theorem qe_str {x : Str} {j} : QE X W (.Constant (.str x) j pos) (mC (.str x)) := qe_const pe_str fun _ _ => .str x
theorem qe_bl {x : Bool} {j} : QE X W (.Constant (.bool x) j pos) (mC (.bl x)) := qe_const pe_bl fun _ _ => .bl x
theorem qe_non {j} : QE X W (.Constant .none j pos) (mC .non) := qe_const pe_non fun _ _ => .non
theorem qe_gint {x : Str} {i : Int} {t : Tok} (hg : Gl X x) (hm : X.mg x = some (.int i t)) (hd : (x == ("__debug__" : Str)) = false := by decide) : QE X W (.Name x pos) (mC (.int i)) := qe_const (pe_glob (v := .int i) hg hm ⟨_, rfl⟩ hd) fun _ _ => .int i
theorem qe_gstr {x : Str} {i : Str} {t : Tok} (hg : Gl X x) (hm : X.mg x = some (.str i t)) (hd : (x == ("__debug__" : Str)) = false := by decide) : QE X W (.Name x pos) (mC (.str i)) := qe_const (pe_glob (v := .str i) hg hm ⟨_, rfl⟩ hd) fun _ _ => .str i
theorem qe_gtup {x : Str} {ad : Addr} {xs : List D} {vs : List V} (hg : Gl X x) (hm : X.mg x = some (.ref ad)) (hs : SqT X.K (fun _ => none) ad vs) (hr : ∀ r H, RelDs X.K X.mg r H xs vs) (hd : (x == ("__debug__" : Str)) = false := by decide) :
    QE X W (.Name x pos) (mC (.tup xs)) := qe_const (pe_glob (v := .ref ad) hg hm rfl hd) fun r H => .tup (by
  rcases hs with (h | ⟨o, h⟩) | h
  · cases h
  · cases h
  · exact .inr h) (hr r H)
theorem qe_fn {x : Str} {ad : Addr} (hg : Gl X x) (hm : X.mg x = some (.ref ad)) (hd : (x == ("__debug__" : Str)) = false := by decide) : QE X W (.Name x pos) (mC (.fn x)) := qe_const (pe_glob (v := .ref ad) hg hm rfl hd) fun _ _ => .fn hm
theorem qe_ty {x : Str} {n : String} (hg : Gl X x) (hm : X.mg x = none) (hv : bootBuiltins x = some (.type n)) (hn : x ≠ "__name__" := by decide) (hd : (x == ("__debug__" : Str)) = false := by decide) : QE X W (.Name x pos) (mC (.ty n)) :=
  qe_const (pe_bltn (v := .ty n) hg hm hv rfl hn hd) fun _ _ => .ty n

/-- two operands -/
theorem two {g : D → D → HP → Option (D × HP)} {σ : L2.St} {H : Hp} {Q : VK} (q : tM X.K X.mg rD W (m2 g ma mb) σ H Q) :
    tOp (rV2 X.K X.mg g) (tM X.K X.mg rD W ma) (tM X.K X.mg rD W mb) σ H Q := by
  have q1 := tM.bind (rr1 := rD) (m := ma) (k := fun s x h => (mb s h).bind fun y h => ofO (g x y h)) q
  obtain ⟨r, s, h, rp, rs, p⟩ := q1
  refine ⟨r, s, h, rp, rs, p.imp fun x H1 ⟨r1, s1, a, h1, rp1, rs1, rl1, p1⟩ => ?_⟩
  refine ⟨r1, s1, h1, rp1, rs1, (Post.bind (rr1 := rD) p1).imp fun y H2 ⟨r2, b, h2, e2, k2, rp2, rl2, p2⟩ => ?_⟩
  exact ⟨r2, a, b, h2, rp2, rl1.mono e2 k2, rl2, p2.ofO⟩
theorem qe_op {op : Operator} {g : D → D → HP → Option (D × HP)} (ho : OpR X (binaryOp op) (rV2 X.K X.mg g)) (ha : QE X W a ma) (hb : QE X W b mb) : QE X W (.BinOp a op b pos) (m2 g ma mb) :=
  (pe_op ho ha hb).imp fun _ _ _ q => two q
theorem qe_cmp {op : CmpOp} {g : D → D → HP → Option (D × HP)} (ho : OpR X (compareOp op) (rV2 X.K X.mg g)) (ha : QE X W a ma) (hb : QE X W b mb) (hm : behindInMarks op b = false := by first | exact nomark _ | rfl) : QE X W (.Compare a [op] [b] pos) (m2 g ma mb) :=
  (pe_cmpR ho ha hb hm).imp fun _ _ _ q => two q
theorem qe_ix {g : D → D → HP → Option (D × HP)} (ho : IxR X (rV2 X.K X.mg g)) (ha : QE X W a ma) (hb : QE X W b mb) (hs : PlainIx b := by exact fun _ _ => rfl) : QE X W (.Subscript a b pos) (m2 g ma mb) :=
  (pe_ix ho ha hb hs).imp fun _ _ _ q => two q
theorem qe_un {op : UnaryOp} {g : D → HP → Option (D × HP)} (ho : UnR X (unaryOp op) (rV1 X.K X.mg g)) (ha : QE X W a ma) : QE X W (.UnaryOp op a pos) (m1 g ma) :=
  (pe_un ho ha).imp fun σ H Q q => by
    obtain ⟨r, s, h, rp, rs, p⟩ := tM.bind (rr1 := rD) (m := ma) (k := fun s x h => ofO (g x h)) q
    exact ⟨r, s, h, rp, rs, p.imp fun x H1 ⟨r1, s1, a, h1, rp1, rs1, rl1, p1⟩ => ⟨r1, a, h1, rp1, rl1, p1.ofO⟩⟩

/-! tests -/
theorem bool_of {γ δ : Type} {rr : RR γ δ} {K : PySem.W.Frag} {mg : Str → Option Value} {r : List Addr} {H : Hp} {σ : L2.St} {d : D} {v : V} {h : HP} {Q : δ → Hp → Prop} {k : Bool → HP → R γ} (rp : Rep K mg r h H) (rl : RelD K mg r H d v)
    (p : Post K mg rr W r σ H Q ((kBl d h).bind k)) : ∃ b, v = .bl b ∧ Post K mg rr W r σ H Q (k b h) := by
  cases rl with
  | bl b => exact ⟨b, rfl, p⟩
  | _ => exact p.elim
theorem bind_id {α : Type} (x : R α) : x = x.bind .ok := by cases x <;> rfl
theorem bind_bind {α β γ : Type} (x : R α) (f : α → HP → R β) (g : β → HP → R γ) : (x.bind f).bind g = x.bind fun a h => (f a h).bind g := by cases x <;> rfl
theorem bool_of' {K : PySem.W.Frag} {mg : Str → Option Value} {r : List Addr} {H : Hp} {σ : L2.St} {d : D} {v : V} {h : HP} {Q : Bool → Hp → Prop} (rp : Rep K mg r h H) (rl : RelD K mg r H d v)
    (p : Post K mg rB W r σ H Q (kBl d h)) : ∃ b, v = .bl b ∧ Q b H := by
  rw [bind_id (kBl d h)] at p
  obtain ⟨b, e, q⟩ := bool_of rp rl p
  exact ⟨b, e, Post.here (rr := rB) q rp rfl⟩
theorem qt_val (ha : QE X W a ma) (he : ∀ whole, isTrue a X.env whole = (do let v ← whole; standAt a.pos; holding [v] (truthy v)) := by intro _; rfl) : QT X W a (mTest ma) :=
  (pt_val ha he).imp fun σ H Q q => by
    obtain ⟨r, s, h, rp, rs, p⟩ := tM.bind (rr1 := rD) (m := ma) (k := fun s => kBl) q
    exact ⟨r, s, h, rp, rs, p.imp fun x H1 ⟨r1, s1, d, h1, rp1, rs1, rl1, p1⟩ => bool_of' rp1 rl1 p1⟩
theorem qt_cmp {op : CmpOp} {g : D → D → HP → Option (D × HP)} (ho : OpR X (compareOp op) (rV2 X.K X.mg g)) (ha : QE X W a ma) (hb : QE X W b mb) (hm : behindInMarks op b = false := by first | exact nomark _ | rfl) : QT X W (.Compare a [op] [b] pos) (mTest (m2 g ma mb)) :=
  (pt_cmpR ho ha hb hm).imp fun σ H Q q => by
    have q1 := tM.bind (rr1 := rD) (m := m2 g ma mb) (k := fun s => kBl) q
    have q2 := two q1
    obtain ⟨r, s, h, rp, rs, p⟩ := q2
    refine ⟨r, s, h, rp, rs, p.imp fun x H1 ⟨r1, s1, h1, rp1, rs1, p1⟩ => ⟨r1, s1, h1, rp1, rs1, p1.imp fun y H2 ⟨r2, a, b, h2, rp2, rla, rlb, p2⟩ => ⟨r2, a, b, h2, rp2, rla, rlb, ?_⟩⟩⟩
    cases e : g a b h2 with
    | none => rw [e] at p2; exact p2.elim
    | some z =>
      obtain ⟨d, h3⟩ := z
      rw [e] at p2
      exact fun r3 v H3 e3 k3 rp3 rl3 => by
        obtain ⟨r4, s4, a4, h4, rp4, rs4, rl4, p4⟩ := p2 r3 v H3 e3 k3 rp3 rl3
        exact bool_of' rp4 rl4 p4
theorem qt_not (ha : QT X W a ta) : QT X W (.UnaryOp .Not a pos) (mNot ta) := (pt_not ha).imp fun σ H Q q => by
  obtain ⟨r, s, h, rp, rs, p⟩ := tM.bind (rr1 := rB) (m := ta) (k := fun s b h => .ok (!b) h) q
  exact ⟨r, s, h, rp, rs, p.imp fun x H1 ⟨r1, s1, a, h1, rp1, rs1, rl1, p1⟩ => by cases rl1; exact Post.here (rr := rB) p1 rp1 rfl⟩
theorem qw_one (ha : QT X W a ta) : QW X W (.BoolOp .And [a] pos) ta := pw_and1 ha
theorem qw_one' (ha : QT X W a ta) : QW X W (.BoolOp .Or [a] pos) ta := pw_or1 ha
theorem qw_and (ha : QT X W a ta) (hb : QW X W (.BoolOp .And (b :: rest) pos) tb) : QW X W (.BoolOp .And (a :: b :: rest) pos) (mAnd ta tb) := (pw_and ha hb).imp fun σ H Q q => by
  obtain ⟨r, s, h, rp, rs, p⟩ := tM.bind (rr1 := rB) (m := ta) (k := fun s x h => bif x then tb s h else .ok false h) q
  refine ⟨r, s, h, rp, rs, p.imp fun x H1 ⟨r1, s1, d, h1, rp1, rs1, rl1, p1⟩ => ?_⟩
  cases rl1
  cases x with
  | true => exact ⟨r1, s1, h1, rp1, rs1, p1⟩
  | false => exact Post.here (rr := rB) p1 rp1 rfl
theorem qw_or (ha : QT X W a ta) (hb : QW X W (.BoolOp .Or (b :: rest) pos) tb) : QW X W (.BoolOp .Or (a :: b :: rest) pos) (mOr ta tb) := (pw_or ha hb).imp fun σ H Q q => by
  obtain ⟨r, s, h, rp, rs, p⟩ := tM.bind (rr1 := rB) (m := ta) (k := fun s x h => bif x then .ok true h else tb s h) q
  refine ⟨r, s, h, rp, rs, p.imp fun x H1 ⟨r1, s1, d, h1, rp1, rs1, rl1, p1⟩ => ?_⟩
  cases rl1
  cases x with
  | true => exact Post.here (rr := rB) p1 rp1 rfl
  | false => exact ⟨r1, s1, h1, rp1, rs1, p1⟩
theorem qt_w (h : QW X W a ta) : QT X W a ta := h.pt
theorem qe_ifExp (hc : QT X W c ta) (ha : QE X W a ma) (hb : QE X W b mb) : QE X W (.IfExp c a b pos) (mIfE ta ma mb) := (pe_ifExp hc ha hb).imp fun σ H Q q => by
  obtain ⟨r, s, h, rp, rs, p⟩ := tM.bind (rr1 := rB) (m := ta) (k := fun s x h => bif x then ma s h else mb s h) q
  refine ⟨r, s, h, rp, rs, p.imp fun x H1 ⟨r1, s1, d, h1, rp1, rs1, rl1, p1⟩ => ?_⟩
  cases rl1
  cases x with
  | true => exact ⟨r1, s1, h1, rp1, rs1, p1⟩
  | false => exact ⟨r1, s1, h1, rp1, rs1, p1⟩
theorem qe_one {op} (ha : QE X W a ma) : QE X W (.BoolOp op [a] pos) ma := pe_one ha
theorem bl_bind {γ δ : Type} {rr : RR γ δ} {σ : L2.St} {H : Hp} {Q : δ → Hp → Prop} {k : SD → Bool → HP → R γ} (q : tM X.K X.mg rr W (fun s h => ((ma s h).bind kBl).bind (k s)) σ H Q) :
    tM X.K X.mg rD W ma σ H (fun v H1 => ∃ b, v = .bl b ∧ ∃ r1 s h1, Rep X.K X.mg r1 h1 H1 ∧ RelSt X.K X.mg r1 H1 s σ ∧ Post X.K X.mg rr W r1 σ H1 Q (k s b h1)) := by
  have q' : tM X.K X.mg rr W (fun s h => (ma s h).bind fun x h => (kBl x h).bind (k s)) σ H Q := by
    obtain ⟨r, s, h, rp, rs, p⟩ := q
    refine ⟨r, s, h, rp, rs, ?_⟩
    dsimp only at p ⊢
    rw [bind_bind] at p
    exact p
  obtain ⟨r, s, h, rp, rs, p⟩ := tM.bind (rr1 := rD) (m := ma) (k := fun s x h => (kBl x h).bind (k s)) q'
  refine ⟨r, s, h, rp, rs, p.imp fun x H1 ⟨r1, s1, d, h1, rp1, rs1, rl1, p1⟩ => ?_⟩
  obtain ⟨b, e, p2⟩ := bool_of rp1 rl1 p1
  exact ⟨b, e, r1, s1, h1, rp1, rs1, p2⟩
theorem qe_and (ha : QE X W a ma) (hb : QE X W (.BoolOp .And (b :: rest) pos) mb) : QE X W (.BoolOp .And (a :: b :: rest) pos) (mAndV ma mb) := (pe_and ha hb).imp fun σ H Q q => by
  obtain ⟨r, s, h, rp, rs, p⟩ := bl_bind (ma := ma) (k := fun s x h => bif x then mb s h else .ok (.bl false) h) q
  refine ⟨r, s, h, rp, rs, p.imp fun x H1 ⟨b, e, r1, s1, h1, rp1, rs1, p1⟩ => ⟨b, e, ?_⟩⟩
  cases b with
  | true => exact ⟨r1, s1, h1, rp1, rs1, p1⟩
  | false => exact Post.here (rr := rD) p1 rp1 (.bl false)
theorem qe_or (ha : QE X W a ma) (hb : QE X W (.BoolOp .Or (b :: rest) pos) mb) : QE X W (.BoolOp .Or (a :: b :: rest) pos) (mOrV ma mb) := (pe_or ha hb).imp fun σ H Q q => by
  obtain ⟨r, s, h, rp, rs, p⟩ := bl_bind (ma := ma) (k := fun s x h => bif x then .ok (.bl true) h else mb s h) q
  refine ⟨r, s, h, rp, rs, p.imp fun x H1 ⟨b, e, r1, s1, h1, rp1, rs1, p1⟩ => ⟨b, e, ?_⟩⟩
  cases b with
  | true => exact Post.here (rr := rD) p1 rp1 (.bl true)
  | false => exact ⟨r1, s1, h1, rp1, rs1, p1⟩
theorem qe_not (ha : QE X W a ma) : QE X W (.UnaryOp .Not a pos) (mNotV ma) := (pe_not ha).imp fun σ H Q q => by
  obtain ⟨r, s, h, rp, rs, p⟩ := bl_bind (ma := ma) (k := fun s x h => R.ok (D.bl (!x)) h) q
  exact ⟨r, s, h, rp, rs, p.imp fun x H1 ⟨b, e, r1, s1, h1, rp1, rs1, p1⟩ => ⟨b, e, Post.here (rr := rD) p1 rp1 (.bl _)⟩⟩

/-! lists of arguments, displays -/
theorem qa_nil : QA X W [] mNil := pa_nil.imp fun σ H Q ⟨r, s, h, rp, rs, p⟩ => Post.here (rr := rDs) p rp .nil
theorem qa_cons (ha : QE X W e ma) (ht : QA X W es t) (hs : starEach (e :: es) X.env = (false, eval e X.env) :: starEach es X.env := by rfl) : QA X W (e :: es) (mCons ma t) := (pa_cons ha ht hs).imp fun σ H Q q => by
  obtain ⟨r, s, h, rp, rs, p⟩ := tM.bind (rr1 := rD) (m := ma) (k := fun s x h => (t s h).bind fun xs h => .ok (x :: xs) h) q
  refine ⟨r, s, h, rp, rs, p.imp fun x H1 ⟨r1, s1, a, h1, rp1, rs1, rl1, p1⟩ => ?_⟩
  refine ⟨r1, s1, h1, rp1, rs1, (Post.bind (rr1 := rDs) p1).imp fun y H2 ⟨r2, b, h2, e2, k2, rp2, rl2, p2⟩ => ?_⟩
  exact Post.here (rr := rDs) p2 rp2 (.cons (rl1.mono e2 k2) rl2)
theorem qe_tup {x1} (ht : QA X W es t) : QE X W (.Tuple es x1 pos) (mTup t) := (pe_tup ht).imp fun σ H Q q => by
  obtain ⟨r, s, h, rp, rs, p⟩ := tM.bind (rr1 := rDs) (m := t) (k := fun s xs h => if xs.length ≤ 1000000 then .ok (D.tup xs) h else .bad) q
  refine ⟨r, s, h, rp, rs, p.imp fun x H1 ⟨r1, s1, a, h1, rp1, rs1, rl1, p1⟩ => ?_⟩
  by_cases hz : a.length ≤ 1000000
  · rw [if_pos hz] at p1
    exact ⟨line_of (by rw [← rl1.length]; exact hz), fun p hp => p1 r1 _ _ (Ext.refl _) (Keep.new hp) (rp1.fresh hp) (.tup (SqT.of upd_same) (rl1.mono (Ext.refl _) (Keep.new hp)))⟩
  · rw [if_neg hz] at p1; exact p1.elim
theorem qe_lst (ht : QA X W es t) : QE X W (.List es pos) (mLst t) := (pe_lst ht).imp fun σ H Q q => by
  obtain ⟨r, s, h, rp, rs, p⟩ := tM.bind (rr1 := rDs) (m := t) (k := fun s xs h => if xs.length ≤ 1000000 then .ok (D.ref h.length) (h ++ [.lst xs]) else .bad) q
  refine ⟨r, s, h, rp, rs, p.imp fun x H1 ⟨r1, s1, a, h1, rp1, rs1, rl1, p1⟩ => ?_⟩
  by_cases hz : a.length ≤ 1000000
  · rw [if_pos hz] at p1
    exact ⟨line_of (by rw [← rl1.length]; exact hz), fun p hp => PostV.lst (h := h1) (show PostV X.K X.mg r1 H1 Q (some (.ref h1.length, h1 ++ [.lst a])) from p1) rp1 rl1 hp⟩
  · rw [if_neg hz] at p1; exact p1.elim

/-! slices -/
theorem qo_none : QO X W none mNoPart := po_none.imp fun σ H Q ⟨r, s, h, rp, rs, p⟩ => Post.here (rr := rOI) p rp rfl
theorem qo_some (ha : QE X W a ma) : QO X W (some a) (mPart ma) := (po_some ha).imp fun σ H Q q => by
  obtain ⟨r, s, h, rp, rs, p⟩ := tM.bind (rr1 := rD) (m := ma) (k := fun s => kInt) q
  refine ⟨r, s, h, rp, rs, p.imp fun x H1 ⟨r1, s1, a, h1, rp1, rs1, rl1, p1⟩ => ?_⟩
  cases rl1 with
  | int i => exact ⟨i, rfl, Post.here (rr := rOI) p1 rp1 rfl⟩
  | _ => exact p1.elim
def rVsl (K : PySem.W.Frag) (mg : Str → Option Value) (g : D → Option Int → Option Int → HP → Option (D × HP)) : V → Option Int → Option Int → Hp → VK → Prop := fun x lo hi H Q => ∃ r d h, Rep K mg r h H ∧ RelD K mg r H d x ∧ PostV K mg r H Q (g d lo hi h)
theorem qe_slice {g : D → Option Int → Option Int → HP → Option (D × HP)} {lo hi : Option Expr} {ml mh : MO} {p2 : Pos} (hr : SlR X (rVsl X.K X.mg g)) (ha : QE X W a ma) (hl : QO X W lo ml) (hh : QO X W hi mh) :
    QE X W (.Subscript a (.Slice lo hi none p2) pos) (mSl g ma ml mh) := (pe_slice hr ha hl hh).imp fun σ H Q q => by
  obtain ⟨r, s, h, rp, rs, p⟩ := tM.bind (rr1 := rD) (m := ma) (k := fun s x h => (ml s h).bind fun lo h => (mh s h).bind fun hi h => ofO (g x lo hi h)) q
  refine ⟨r, s, h, rp, rs, p.imp fun x H1 ⟨r1, s1, a, h1, rp1, rs1, rl1, p1⟩ => ?_⟩
  refine ⟨r1, s1, h1, rp1, rs1, (Post.bind (rr1 := rOI) p1).imp fun y H2 ⟨r2, b, h2, e2, k2, rp2, rl2, p2⟩ => ?_⟩
  refine ⟨r2, s1, h2, rp2, rs1.mono e2 k2, (Post.bind (rr1 := rOI) p2).imp fun z H3 ⟨r3, c, h3, e3, k3, rp3, rl3, p3⟩ => ?_⟩
  cases rl2
  cases rl3
  exact ⟨r3, a, h3, rp3, rl1.mono (e2.trans e3) (k2.trans k3), p3.ofO⟩

/-! calls of built-ins, methods of built-ins -/
theorem qe_callB {g : List D → HP → Option (D × HP)} {x : Str} {p : Pos} {id : String} (hc : CallR X (.builtin id) (rVs X.K X.mg g)) (hg : Gl X x) (hm : X.mg x = none) (hv : bootBuiltins x = some (.builtin id)) (ha : QA X W (e :: es) t) (hn : x ≠ "__name__" := by decide) (hdb : (x == ("__debug__" : Str)) = false := by decide)
    (he : starEach (e :: es) X.env = (false, eval e X.env) :: starEach es X.env := by rfl) (hpl : (backTo pos (starEach es X.env)).any (·.1) = false := by rfl) : QE X W (.Call (.Name x p) (e :: es) [] pos) (mB g t) :=
  (pe_callB hc hg hm hv ha hn hdb he hpl).imp fun σ H Q q => by
    obtain ⟨r, s, h, rp, rs, p⟩ := tM.bind (rr1 := rDs) (m := t) (k := fun s xs h => ofO (g xs h)) q
    exact ⟨r, s, h, rp, rs, p.imp fun x H1 ⟨r1, s1, a, h1, rp1, rs1, rl1, p1⟩ => ⟨r1, a, h1, rp1, rl1, p1.ofO⟩⟩
theorem qe_callTy {g : List D → HP → Option (D × HP)} {x : Str} {p : Pos} {T : String} (hc : CallR X (.type T) (rVs X.K X.mg g)) (hg : Gl X x) (hm : X.mg x = none) (hv : bootBuiltins x = some (.type T)) (ha : QA X W (e :: es) t) (hn : x ≠ "__name__" := by decide) (hdb : (x == ("__debug__" : Str)) = false := by decide)
    (he : starEach (e :: es) X.env = (false, eval e X.env) :: starEach es X.env := by rfl) (hpl : (backTo pos (starEach es X.env)).any (·.1) = false := by rfl) : QE X W (.Call (.Name x p) (e :: es) [] pos) (mB g t) :=
  (pe_callTy hc hg hm hv ha hn hdb he hpl).imp fun σ H Q q => by
    obtain ⟨r, s, h, rp, rs, p⟩ := tM.bind (rr1 := rDs) (m := t) (k := fun s xs h => ofO (g xs h)) q
    exact ⟨r, s, h, rp, rs, p.imp fun x H1 ⟨r1, s1, a, h1, rp1, rs1, rl1, p1⟩ => ⟨r1, a, h1, rp1, rl1, p1.ofO⟩⟩
/-- o.m(e, ..), m a built-in type's method. ty: of what type the receiver must be -/
def tyD (T : String) (d : D) (h : HP) : Prop := match d with
  | .str _ => T = "str"
  | .ref i => (T = "list" ∧ ∃ xs, h[i]? = some (.lst xs)) ∨ (T = "dict" ∧ ∃ xs, h[i]? = some (.dic xs))
  | .tup _ => T = "tuple"
  | _ => False
end
end PM
end
section
set_option Elab.async false
set_option linter.all false
set_option maxRecDepth 100000
set_option maxHeartbeats 1000000
namespace PM
open PySem PySem.Spec PyProof.Rows L2

section
variable {K : PySem.W.Frag} {mg : Str → Option Value} {r r' r1 : List Addr} {H H' H1 : Hp} {h : HP} {s : SD} {σ : L2.St} {α β γ δ : Type} {W : WX} {D0 : Ends}

def PostS (K : PySem.W.Frag) (mg : Str → Option Value) (W : WX) (r : List Addr) (H : Hp) (D0 : Ends) (x : RS) : Prop := match x with
  | .nx s' h' => ∀ r' σ' H', Ext r r' → Keep H H' → Rep K mg r' h' H' → RelSt K mg r' H' s' σ' → D0.nx σ' H'
  | .bk s' h' => ∀ r' σ' H', Ext r r' → Keep H H' → Rep K mg r' h' H' → RelSt K mg r' H' s' σ' → D0.bk σ' H'
  | .ct s' h' => ∀ r' σ' H', Ext r r' → Keep H H' → Rep K mg r' h' H' → RelSt K mg r' H' s' σ' → D0.ct σ' H'
  | .rt d h' => ∀ r' v H', Ext r r' → Keep H H' → Rep K mg r' h' H' → RelD K mg r' H' d v → D0.rt v H'
  | .exc s' c fs h' => ∀ r' σ' cls dd H', Ext r r' → Keep H H' → Rep K mg r' h' H' → RelSt K mg r' H' s' σ' → XRel K mg r' H' c fs cls dd → W cls dd σ' H'
  | .bad => False
def tS (K : PySem.W.Frag) (mg : Str → Option Value) (W : WX) (m : MS) : TS := fun D0 σ H => ∃ r s h, Rep K mg r h H ∧ RelSt K mg r H s σ ∧ PostS K mg W r H D0 (m s h)

theorem PostS.mono {x : RS} (p : PostS K mg W r H D0 x) (e : Ext r r1) (k : Keep H H1) : PostS K mg W r1 H1 D0 x := by
  cases x with
  | nx s' h' => exact fun r' σ' H' e' k' => p r' σ' H' (e.trans e') (k.trans k')
  | bk s' h' => exact fun r' σ' H' e' k' => p r' σ' H' (e.trans e') (k.trans k')
  | ct s' h' => exact fun r' σ' H' e' k' => p r' σ' H' (e.trans e') (k.trans k')
  | rt d h' => exact fun r' v H' e' k' => p r' v H' (e.trans e') (k.trans k')
  | exc s' c fs h' => exact fun r' σ' cls dd H' e' k' => p r' σ' cls dd H' (e.trans e') (k.trans k')
  | bad => exact p
theorem PostS.here {s' : SD} {h' : HP} (p : PostS K mg W r H D0 (.nx s' h')) (rp : Rep K mg r h' H) (rs : RelSt K mg r H s' σ) : D0.nx σ H := p r σ H (Ext.refl r) (Keep.refl H) rp rs
/-- an expression, then a step -/
theorem PostS.ofE {rr : RR α β} {x : R α} {k : α → HP → RS} (rs : RelSt K mg r H s σ) (p : PostS K mg W r H D0 (x.toS s k)) :
    Post K mg rr W r σ H (fun b H1 => ∃ r1 a h1, Ext r r1 ∧ Keep H H1 ∧ Rep K mg r1 h1 H1 ∧ rr.rel K mg r1 H1 a b ∧ PostS K mg W r1 H1 D0 (k a h1)) x := by
  cases x with
  | ok a h' => exact fun r' b H' e' k' rp rl => ⟨r', a, h', e', k', rp, rl, PostS.mono p e' k'⟩
  | exc c fs h' => exact fun r' cls dd H' e' k' rp xr => p r' σ cls dd H' e' k' rp (rs.mono e' k') xr
  | bad => exact p
theorem tS.ofE {rr : RR α β} {m : SD → HP → R α} {k : SD → α → HP → RS} (t : tS K mg W (fun s h => (m s h).toS s (k s)) D0 σ H) :
    tM K mg rr W m σ H (fun b H1 => ∃ r1 s a h1, Rep K mg r1 h1 H1 ∧ RelSt K mg r1 H1 s σ ∧ rr.rel K mg r1 H1 a b ∧ PostS K mg W r1 H1 D0 (k s a h1)) := by
  obtain ⟨r, s, h, rp, rs, p⟩ := t
  exact ⟨r, s, h, rp, rs, (PostS.ofE (rr := rr) rs p).imp fun b H' ⟨r1, a, h1, e, k, rp, rl, q⟩ => ⟨r1, s, a, h1, rp, rs.mono e k, rl, q⟩⟩
theorem PostS.seq {x : RS} {k : MS} (p : PostS K mg W r H D0 (x.seq k)) : PostS K mg W r H { D0 with nx := fun σ' H' => tS K mg W k D0 σ' H' } x := by
  cases x with
  | nx s' h' => exact fun r' σ' H' e' k' rp rs => ⟨r', s', h', rp, rs, PostS.mono p e' k'⟩
  | bk s' h' => exact p
  | ct s' h' => exact p
  | rt d h' => exact p
  | exc s' c fs h' => exact p
  | bad => exact p
end

/-! ### statements of plain code -/
abbrev MG := D → SD → Option SD
def mNext : MS := fun s h => .nx s h
def mSeq (a b : MS) : MS := fun s h => (a s h).seq b
def mSet (i : Nat) (a : ME) : MS := fun s h => (a s h).toS s fun d h => .nx (s.set i (some d)) h
def ofS (x : Option SD) (h : HP) : RS := match x with
  | some s => .nx s h
  | none => .bad
def mAsg (g : MG) (a : ME) : MS := fun s h => (a s h).toS s fun d h => ofS (g d s) h
def mDrop (a : ME) : MS := fun s h => (a s h).toS s fun _ h => .nx s h
def mRet (a : ME) : MS := fun s h => (a s h).toS s fun d h => .rt d h
def mRetN : MS := fun _ h => .rt .non h
def mIfS (c : MT) (a b : MS) : MS := fun s h => (c s h).toS s fun x h => bif x then a s h else b s h
def mBreak : MS := fun s h => .bk s h
def mCont : MS := fun s h => .ct s h
def mBad : MS := fun _ _ => .bad
def mAug (i : Nat) (g : D → D → HP → Option (D × HP)) (a : ME) : MS := fun s h => match s[i]? with
  | some (some x) => (a s h).toS s fun y h => (ofO (g x y h)).toS s fun z h => .nx (s.set i (some z)) h
  | _ => .bad
def gN (i : Nat) : MG := fun d s => some (s.set i (some d))
def gNil : List D → SD → Option SD := fun ds s => match ds with
  | [] => some s
  | _ => none
def gCons (g : MG) (t : List D → SD → Option SD) : List D → SD → Option SD := fun ds s => match ds with
  | d :: ds => (g d s).bind fun s => t ds s
  | [] => none
def gTup (n : Nat) (t : List D → SD → Option SD) : MG := fun d s => match d with
  | .tup ds => if ds.length = n then t ds s else none
  | _ => none
def wN : Nat := 1000000000
def mWhileN : Nat → MT → MS → MS
  | 0, _, _ => fun _ _ => .bad
  | n + 1, c, b => fun s h => (c s h).toS s fun x h => bif x then (match b s h with
      | .nx s h => mWhileN n c b s h
      | .ct s h => mWhileN n c b s h
      | .bk s h => .nx s h
      | .rt d h => .rt d h
      | .exc s c fs h => .exc s c fs h
      | .bad => .bad) else .nx s h
@[irreducible] def mWhile (c : MT) (b : MS) : MS := mWhileN wN c b
/-- what is walked: the items, and what must stay so while they are walked -/
abbrev MI := SD → HP → R (List D × (HP → Prop))
open Classical in
noncomputable def mLoop (G : HP → Prop) (g : MG) (b : MS) : List D → MS
  | [] => fun s h => if G h then .nx s h else .bad
  | d :: ds => fun s h => if G h then (match g d s with
      | none => .bad
      | some s => match b s h with
        | .nx s h => mLoop G g b ds s h
        | .ct s h => mLoop G g b ds s h
        | .bk s h => .nx s h
        | .rt d h => .rt d h
        | .exc s c fs h => .exc s c fs h
        | .bad => .bad) else .bad
noncomputable def mFor (it : MI) (g : MG) (b : MS) : MS := fun s h => (it s h).toS s fun x h => mLoop x.2 g b x.1 s h

section
variable {X : Cx} {W : WX} {a b c e : Expr} {st : Stmt} {es rest : List Expr} {sts : List Stmt} {ma mb mc : ME} {ta tb : MT} {t : MA} {pos pos' : Pos} {ms mt : MS}
abbrev QS (X : Cx) (W : WX) (st : Stmt) (m : MS) : Prop := PS X st (tS X.K X.mg W m)
abbrev QSs (X : Cx) (W : WX) (st : List Stmt) (m : MS) : Prop := PSs X st (tS X.K X.mg W m)

theorem qss_nil : QSs X W [] mNext := pss_nil.imp fun D0 σ H ⟨r, s, h, rp, rs, p⟩ => p.here rp rs
theorem qss_cons (h1 : QS X W st ms) (h2 : QSs X W sts mt) : QSs X W (st :: sts) (mSeq ms mt) := (pss_cons h1 h2).imp fun D0 σ H ⟨r, s, h, rp, rs, p⟩ => ⟨r, s, h, rp, rs, p.seq⟩
theorem qss_one (h1 : QS X W st ms) : QSs X W [st] ms := pss_one h1
theorem qs_pass : QS X W (.Pass pos) mNext := ps_pass.imp fun D0 σ H ⟨r, s, h, rp, rs, p⟩ => p.here rp rs
theorem qs_never : QS X W st mBad := ps_never.imp fun D0 σ H ⟨r, s, h, rp, rs, p⟩ => p.elim
theorem qs_break : QS X W (.Break pos) mBreak := ps_break.imp fun D0 σ H ⟨r, s, h, rp, rs, p⟩ => p r σ H (Ext.refl r) (Keep.refl H) rp rs
theorem qs_continue : QS X W (.Continue pos) mCont := ps_continue.imp fun D0 σ H ⟨r, s, h, rp, rs, p⟩ => p r σ H (Ext.refl r) (Keep.refl H) rp rs
theorem qs_set {i : Nat} {x : Str} (hN : X.N.Nodup) (ha : QE X W e ma) (hi : X.N[i]? = some x := by rfl) (hx : Loc X.env.scope x := by first | exact .inl rfl | exact .inr rfl) (hs : swapsWith e (some (.Name x pos')) pos.line X.env = pure false := by rfl)
    (hf : X.fn x = true ∨ X.env.scope.names.lookup x = some .local := by first | exact .inl rfl | exact .inr rfl) : QS X W (.Assign [.Name x pos'] e pos) (mSet i ma) :=
  (ps_set (i := i) hN hi hx ha hs hf).imp fun D0 σ H q => by
    obtain ⟨r, s, h, rp, rs, p⟩ := tS.ofE (rr := rD) (m := ma) (k := fun s d h => RS.nx (s.set i (some d)) h) q
    exact ⟨r, s, h, rp, rs, p.imp fun v H1 ⟨r1, s1, d, h1, rp1, rs1, rl1, p1⟩ => p1.here rp1 (rs1.set i rl1)⟩
theorem qs_drop (ha : QE X W e ma) (hs : swapsWith e none pos.line X.env = pure false := by rfl) : QS X W (.Expr e pos) (mDrop ma) := (ps_expr ha hs).imp fun D0 σ H q => by
  obtain ⟨r, s, h, rp, rs, p⟩ := tS.ofE (rr := rD) (m := ma) (k := fun s d h => RS.nx s h) q
  exact ⟨r, s, h, rp, rs, p.imp fun v H1 ⟨r1, s1, d, h1, rp1, rs1, rl1, p1⟩ => p1.here rp1 rs1⟩
theorem qs_ret (ha : QE X W e ma) : QS X W (.Return (some e) pos) (mRet ma) := (ps_ret ha).imp fun D0 σ H q => by
  obtain ⟨r, s, h, rp, rs, p⟩ := tS.ofE (rr := rD) (m := ma) (k := fun s d h => RS.rt d h) q
  exact ⟨r, s, h, rp, rs, p.imp fun v H1 ⟨r1, s1, d, h1, rp1, rs1, rl1, p1⟩ => p1 r1 v H1 (Ext.refl _) (Keep.refl _) rp1 rl1⟩
theorem qs_retN : QS X W (.Return none pos) mRetN := ps_retN.imp fun D0 σ H ⟨r, s, h, rp, rs, p⟩ => p r _ H (Ext.refl _) (Keep.refl _) rp .non
theorem qs_if {aa bb : List Stmt} (hc : QT X W c ta) (ha : QSs X W aa ms) (hb : QSs X W bb mt) : QS X W (.If c aa bb pos) (mIfS ta ms mt) := (ps_if hc ha hb).imp fun D0 σ H q => by
  obtain ⟨r, s, h, rp, rs, p⟩ := tS.ofE (rr := rB) (m := ta) (k := fun s x h => bif x then ms s h else mt s h) q
  refine ⟨r, s, h, rp, rs, p.imp fun v H1 ⟨r1, s1, d, h1, rp1, rs1, rl1, p1⟩ => ?_⟩
  cases rl1
  cases v with
  | true => exact ⟨r1, s1, h1, rp1, rs1, p1⟩
  | false => exact ⟨r1, s1, h1, rp1, rs1, p1⟩
theorem qs_aug {i : Nat} {x : Str} {op : Operator} {g : D → D → HP → Option (D × HP)} (hN : X.N.Nodup) (ho : OpR X (inplaceOp op) (rV2 X.K X.mg g)) (ha : QE X W e ma) (hi : X.N[i]? = some x := by rfl) (hx : Loc X.env.scope x := by first | exact .inl rfl | exact .inr rfl)
    (hf : X.fn x = true ∨ X.env.scope.names.lookup x = some .local := by first | exact .inl rfl | exact .inr rfl) : QS X W (.AugAssign (.Name x pos') op e pos) (mAug i g ma) :=
  (ps_aug (i := i) (ti := rV2 X.K X.mg g) hN hi hx ha ho hf).imp fun D0 σ H ⟨r, s, h, rp, rs, p⟩ => by
    unfold mAug at p
    cases q : s[i]? with
    | none => rw [q] at p; exact p.elim
    | some o =>
      cases o with
      | none => rw [q] at p; exact p.elim
      | some d =>
        rw [q] at p
        obtain ⟨v, e1, e2⟩ := rs.at' i d q
        refine ⟨v, e1, r, s, h, rp, rs, (PostS.ofE (rr := rD) rs p).imp fun y H1 ⟨r1, b, h1, x1, k1, rp1, rl1, p1⟩ => ?_⟩
        refine ⟨r1, d, b, h1, rp1, e2.mono x1 k1, rl1, ?_⟩
        have p2 := PostS.ofE (rr := rD) (rs.mono x1 k1) p1
        have p3 := p2.ofO
        cases z : g d b h1 with
        | none => rw [z] at p3; exact p3.elim
        | some w =>
          obtain ⟨d2, h2⟩ := w
          rw [z] at p3
          exact fun r3 v3 H3 x3 k3 rp3 rl3 => by
            obtain ⟨r4, a4, h4, x4, k4, rp4, rl4, p4⟩ := p3 r3 v3 H3 x3 k3 rp3 rl3
            exact p4.here rp4 (((rs.mono x1 k1).mono x4 k4).set i rl4)

/-! targets -/
theorem _root_.L2.PG.imp {X : Cx} {e : Expr} {t t' : TG} (h : PG X e t) (f : ∀ v σ H Q, t' v σ H Q → t v σ H Q) : PG X e t' := ⟨fun pins s σ H v u Q I r q => h.run pins s σ H v u Q I r (f v σ H Q q)⟩
theorem _root_.L2.PGs.imp {X : Cx} {e : List Expr} {t t' : TGs} (h : PGs X e t) (f : ∀ v σ H Q, t' v σ H Q → t v σ H Q) : PGs X e t' := ⟨fun pins s σ H v u Q I r q => h.run pins s σ H v u Q I r (f v σ H Q q)⟩
def PostG (K : PySem.W.Frag) (mg : Str → Option Value) (r : List Addr) (H : Hp) (Q : L2.St → Hp → Prop) (x : Option SD) : Prop := match x with
  | some s => ∀ σ, RelSt K mg r H s σ → Q σ H
  | none => False
def rG (K : PySem.W.Frag) (mg : Str → Option Value) (g : MG) : TG := fun v σ H Q => ∃ r s d, RelSt K mg r H s σ ∧ RelD K mg r H d v ∧ PostG K mg r H Q (g d s)
def rGs (K : PySem.W.Frag) (mg : Str → Option Value) (g : List D → SD → Option SD) : TGs := fun vs σ H Q => ∃ r s ds, RelSt K mg r H s σ ∧ RelDs K mg r H ds vs ∧ PostG K mg r H Q (g ds s)
abbrev QG (X : Cx) (tg : Expr) (g : MG) : Prop := PG X tg (rG X.K X.mg g)
abbrev QGs (X : Cx) (tg : List Expr) (g : List D → SD → Option SD) : Prop := PGs X tg (rGs X.K X.mg g)
theorem qg_name {i : Nat} {x : Str} (hN : X.N.Nodup) (hi : X.N[i]? = some x := by rfl) (hx : Loc X.env.scope x := by first | exact .inl rfl | exact .inr rfl) (hf : X.fn x = true ∨ X.env.scope.names.lookup x = some .local := by first | exact .inl rfl | exact .inr rfl) :
    QG X (.Name x pos) (gN i) := (pg_name (i := i) hN hi hx hf).imp fun v σ H Q ⟨r, s, d, rs, rl, p⟩ => p _ (rs.set i rl)
theorem qgs_nil : QGs X [] gNil := pgs_nil.imp fun vs σ H Q ⟨r, s, ds, rs, rl, p⟩ => by
  cases rl with
  | nil => exact ⟨rfl, p σ rs⟩
  | cons _ _ => exact p.elim
theorem qgs_cons {g : MG} {t : List D → SD → Option SD} (h1 : QG X e g) (h2 : QGs X es t) (hs : (assignEach (e :: es) X.env).map (·.2) = assign e X.env :: (assignEach es X.env).map (·.2) := by rfl) : QGs X (e :: es) (gCons g t) :=
  (pgs_cons h1 h2 hs).imp fun vs σ H Q ⟨r, s, ds, rs, rl, p⟩ => by
    cases rl with
    | nil => exact p.elim
    | @cons d v ds' vs' rl1 rl2 =>
      refine ⟨v, vs', rfl, r, s, d, rs, rl1, ?_⟩
      show PostG X.K X.mg r H _ (g d s)
      have p' : PostG X.K X.mg r H Q ((g d s).bind fun s => t ds' s) := p
      cases z : g d s with
      | none => rw [z] at p'; exact p'.elim
      | some s2 =>
        rw [z] at p'
        exact fun σ2 rs2 => ⟨r, s2, ds', rs2, rl2, p'⟩
theorem qg_tup {n : Nat} {k : Nat} {t : List D → SD → Option SD} (hc : X.calm = true) (h : QGs X es t) (hn : (assignEach es X.env).length = n := by rfl) (hst : (assignEach es X.env).findIdx? (·.1) = none := by rfl) : QG X (.Tuple es k pos) (PM.gTup n t) := by
  refine (pg_tup (k := k) hc h hn hst).imp fun v σ H Q ⟨r, s, d, rs, rl, p⟩ => ?_
  cases rl with
  | @tup ds a vs sq rls =>
    have p' : PostG X.K X.mg r H Q (if ds.length = n then t ds s else none) := p
    by_cases e : ds.length = n
    · rw [if_pos e] at p'
      exact ⟨a, vs, rfl, sq, by rw [← rls.length]; exact e, r, s, ds, rs, rls, p'⟩
    · rw [if_neg e] at p'; exact p'.elim
  | _ => exact p.elim
theorem qs_asg {tg : Expr} {g : MG} (ha : QE X W e ma) (hg : QG X tg g) (hs : swapsWithSole [tg] e pos.line X.env = pure false := by rfl) (hw : swappedStores [tg] e X.env = pure none := by rfl)
    (h1 : (assignEach [tg] X.env).map (·.2) = [assign tg X.env] := by rfl) : QS X W (.Assign [tg] e pos) (mAsg g ma) := (ps_asg ha hg hs hw h1).imp fun D0 σ H q => by
  obtain ⟨r, s, h, rp, rs, p⟩ := tS.ofE (rr := rD) (m := ma) (k := fun s d h => ofS (g d s) h) q
  refine ⟨r, s, h, rp, rs, p.imp fun v H1 ⟨r1, s1, d, h1, rp1, rs1, rl1, p1⟩ => ⟨r1, s1, d, rs1, rl1, ?_⟩⟩
  cases z : g d s1 with
  | none => rw [z] at p1; exact p1.elim
  | some s2 =>
    rw [z] at p1
    exact fun σ2 rs2 => p1.here rp1 rs2

/-! while -/
theorem PostS.loop {r : List Addr} {H : Hp} {D0 : Ends} {x : RS} {k : MS} (p : PostS X.K X.mg W r H D0 (match x with
      | .nx s h => k s h
      | .ct s h => k s h
      | .bk s h => .nx s h
      | .rt d h => .rt d h
      | .exc s c fs h => .exc s c fs h
      | .bad => .bad)) (N : L2.St → Hp → Prop) (hN : ∀ σ H, tS X.K X.mg W k D0 σ H → N σ H) : PostS X.K X.mg W r H { D0 with nx := N, ct := N, bk := D0.nx } x := by
  cases x with
  | nx s' h' => exact fun r' σ' H' e' k' rp rs => hN _ _ ⟨r', s', h', rp, rs, PostS.mono p e' k'⟩
  | bk s' h' => exact p
  | ct s' h' => exact fun r' σ' H' e' k' rp rs => hN _ _ ⟨r', s', h', rp, rs, PostS.mono p e' k'⟩
  | rt d h' => exact p
  | exc s' c fs h' => exact p
  | bad => exact p
theorem qs_while {body : List Stmt} (hp : PassesOwn (model X.prog X.w) X.A X.env X.xe) (hc : QT X W c ta) (hb : QSs X W body ms) : QS X W (.While c body [] pos) (mWhile ta ms) :=
  (ps_while hp hc hb).imp fun D0 σ H q => by
    refine ⟨fun n σ H => tS X.K X.mg W (mWhileN n ta ms) D0 σ H, ⟨wN, by unfold mWhile at q; exact q⟩, fun n σ H w => ?_⟩
    cases n with
    | zero => obtain ⟨_, _, _, _, _, p⟩ := w; exact p.elim
    | succ n =>
      obtain ⟨r, s, h, rp, rs, p⟩ := w
      refine ⟨r, s, h, rp, rs, (PostS.ofE (rr := rB) rs p).imp fun v H1 ⟨r1, b, h1, e1, k1, rp1, rl1, p1⟩ => ?_⟩
      cases rl1
      cases v with
      | true =>
        refine ⟨fun σ H => tS X.K X.mg W (mWhileN n ta ms) D0 σ H, fun σ' H' q => ⟨n, Nat.lt_succ_self n, q⟩, r1, s, h1, rp1, rs.mono e1 k1, ?_⟩
        exact PostS.loop p1 _ fun _ _ q => q
      | false => exact PostS.here p1 rp1 (rs.mono e1 k1)

/-! for -/
/-- the walk J gives the items ds while G holds -/
def JRel (K : PySem.W.Frag) (mg : Str → Option Value) (r0 : List Addr) (H0 : Hp) (J : It) (ds : List D) (G : HP → Prop) : Prop :=
  ∀ (i : Nat) (r : List Addr) (H : Hp) (h : HP), Ext r0 r → Keep H0 H → Rep K mg r h H → G h →
    (∀ d, ds[i]? = some d → J.go i H ∧ ∀ x H', J.yld i H x H' → Keep H H' ∧ Rep K mg r h H' ∧ RelD K mg r H' d x) ∧ (ds.length ≤ i → J.stop i H)
def PostI (K : PySem.W.Frag) (mg : Str → Option Value) (W : WX) (r : List Addr) (σ : L2.St) (H : Hp) (Q : It → Hp → Prop) (x : R (List D × (HP → Prop))) : Prop := match x with
  | .ok y h' => ∀ r' H' J, Ext r r' → Keep H H' → Rep K mg r' h' H' → JRel K mg r' H' J y.1 y.2 → Q J H'
  | .exc c fs h' => ∀ r' cls dd H', Ext r r' → Keep H H' → Rep K mg r' h' H' → XRel K mg r' H' c fs cls dd → W cls dd σ H'
  | .bad => False
def rIt (K : PySem.W.Frag) (mg : Str → Option Value) (W : WX) (m : MI) : TI := fun σ H Q => ∃ r s h, Rep K mg r h H ∧ RelSt K mg r H s σ ∧ PostI K mg W r σ H Q (m s h)
abbrev QI (X : Cx) (W : WX) (tg e : Expr) (m : MI) : Prop := PI X tg e (rIt X.K X.mg W m)
theorem _root_.L2.PI.imp {X : Cx} {tg e : Expr} {t t' : TI} (h : PI X tg e t) (f : ∀ σ H Q, t' σ H Q → t σ H Q) : PI X tg e t' := ⟨fun pins s σ H Q I q => h.run pins s σ H Q I (f σ H Q q)⟩
theorem loop_stop (G : HP → Prop) (g : MG) (b : MS) {ds : List D} {i : Nat} (hi : ds.length ≤ i) : mLoop G g b (ds.drop i) = mLoop G g b [] := by
  rw [List.drop_eq_nil_of_le hi]
theorem for_gen {K : PySem.W.Frag} {mg : Str → Option Value} {J : It} {ds : List D} {G : HP → Prop} {g : MG} {b : MS} {D0 : Ends} {r0 : List Addr} {s : SD} {h : HP} {σ : L2.St} {H0 : Hp}
    (j : JRel K mg r0 H0 J ds G) (rp : Rep K mg r0 h H0) (rs : RelSt K mg r0 H0 s σ) (p : PostS K mg W r0 H0 D0 (mLoop G g b ds s h)) :
    ∃ Wn : Nat → Nat → L2.St → Hp → Prop, (∃ m, Wn 0 m σ H0) ∧ ∀ i m σ H, Wn i m σ H → (J.stop i H ∧ D0.nx σ H) ∨ (J.go i H ∧ ∃ N : L2.St → Hp → Prop, (∀ σ' H', N σ' H' → ∃ m', m' < m ∧ Wn (i + 1) m' σ' H') ∧
      ∀ x H', J.yld i H x H' → rG K mg g x σ H' fun σ2 H2 => tS K mg W b { D0 with nx := N, ct := N, bk := D0.nx } σ2 H2) := by
  refine ⟨fun i m σ H => m = ds.length - i ∧ ∃ r s h, Ext r0 r ∧ Keep H0 H ∧ Rep K mg r h H ∧ RelSt K mg r H s σ ∧ PostS K mg W r H D0 (mLoop G g b (ds.drop i) s h), ⟨ds.length, by simp, r0, s, h, Ext.refl _, Keep.refl _, rp, rs, by simpa using p⟩, ?_⟩
  rintro i m σ H ⟨rfl, r, s, h, e, k, rp, rs, p⟩
  rcases Nat.lt_or_ge i ds.length with hi | hi
  · rw [List.drop_eq_getElem_cons hi] at p
    unfold mLoop at p
    by_cases hG : G h
    · rw [if_pos hG] at p
      obtain ⟨j1, _⟩ := j i r H h e k rp hG
      obtain ⟨go, y⟩ := j1 _ (List.getElem?_eq_getElem hi)
      refine .inr ⟨go, fun σ' H' => ∃ r s h, Ext r0 r ∧ Keep H0 H' ∧ Rep K mg r h H' ∧ RelSt K mg r H' s σ' ∧ PostS K mg W r H' D0 (mLoop G g b (ds.drop (i + 1)) s h), fun σ' H' q => ⟨ds.length - (i + 1), by omega, rfl, q⟩, fun x H' yl => ?_⟩
      obtain ⟨k1, rp1, rl1⟩ := y x H' yl
      refine ⟨r, s, _, rs.mono (Ext.refl _) k1, rl1, ?_⟩
      cases z : g ds[i] s with
      | none => rw [z] at p; exact p.elim
      | some s2 =>
        rw [z] at p
        refine fun σ2 rs2 => ⟨r, s2, h, rp1, rs2, ?_⟩
        have p2 : PostS K mg W r H' D0 _ := p.mono (Ext.refl r) k1
        dsimp only at p2
        cases w : b s2 h with
        | nx s' h' => rw [w] at p2; exact fun r' σ' H'' e' k' rp' rs' => ⟨r', s', h', e.trans e', (k.trans k1).trans k', rp', rs', PostS.mono p2 e' k'⟩
        | ct s' h' => rw [w] at p2; exact fun r' σ' H'' e' k' rp' rs' => ⟨r', s', h', e.trans e', (k.trans k1).trans k', rp', rs', PostS.mono p2 e' k'⟩
        | bk s' h' => rw [w] at p2; exact p2
        | rt d h' => rw [w] at p2; exact p2
        | exc s' c fs h' => rw [w] at p2; exact p2
        | bad => rw [w] at p2; exact p2
    · rw [if_neg hG] at p; exact p.elim
  · rw [loop_stop G g b hi] at p
    unfold mLoop at p
    by_cases hG : G h
    · rw [if_pos hG] at p
      exact .inl ⟨(j i r H h e k rp hG).2 hi, p.here rp rs⟩
    · rw [if_neg hG] at p; exact p.elim
theorem qs_for {tg iter : Expr} {body : List Stmt} {mi : MI} {g : MG} (hp : PassesOwn (model X.prog X.w) X.A X.env X.xe) (hc : X.calm = true) (hi : QI X W tg iter mi) (hg : QG X tg g) (hb : QSs X W body ms)
    (hs : ∀ x, foldedSetIterable iter X.env x = pure x := by intro _; rfl) : QS X W (.For tg iter body [] pos) (mFor mi g ms) := (ps_for hp hc hi hg hb hs).imp fun D0 σ H ⟨r, s, h, rp, rs, p⟩ => by
  refine ⟨r, s, h, rp, rs, ?_⟩
  unfold mFor at p
  cases z : mi s h with
  | ok y h' =>
    rw [z] at p
    exact fun r' H' J e k rp' j => for_gen j rp' (rs.mono e k) (PostS.mono p e k)
  | exc c fs h' => rw [z] at p; exact fun r' cls dd H' e' k' rp' xr => p r' σ cls dd H' e' k' rp' (rs.mono e' k') xr
  | bad => rw [z] at p; exact p
end
end PM
end
section
set_option Elab.async false
set_option linter.all false
set_option maxRecDepth 100000
set_option maxHeartbeats 1000000
namespace PM
open PySem PySem.Spec PyProof.Rows L2

/-! ### defs -/
/-- what a def does: its body from the arguments -/
def runDef (n : Nat) (body : MS) : List D → HP → R D := fun ds h => match body (ds.map some ++ List.replicate (n - ds.length) none) h with
  | .nx _ h => .ok .non h
  | .rt d h => .ok d h
  | .exc _ c fs h => .exc c fs h
  | _ => .bad
def PostC (K : PySem.W.Frag) (mg : Str → Option Value) (r : List Addr) (H : Hp) (Q : VK) (E : XK) (x : R D) : Prop := match x with
  | .ok d h' => ∀ r' v H', Ext r r' → Keep H H' → Rep K mg r' h' H' → RelD K mg r' H' d v → Q v H'
  | .exc c fs h' => ∀ r' cls dd H', Ext r r' → Keep H H' → Rep K mg r' h' H' → XRel K mg r' H' c fs cls dd → E cls dd H'
  | .bad => False
def spM (K : PySem.W.Frag) (mg : Str → Option Value) (np : Nat) (m : List D → HP → R D) : Sp := fun vs H Q E => ∃ r ds h, Rep K mg r h H ∧ RelDs K mg r H ds vs ∧ ds.length = np ∧ PostC K mg r H Q E (m ds h)

theorem start_get {N : List Str} {vs : List V} {i : Nat} {v : V} (e : vs[i]? = some v) : (L2.start N vs)[i]? = some (some v) := by
  unfold L2.start
  have hi : i < vs.length := (List.getElem?_eq_some_iff.mp e).1
  rw [List.getElem?_append_left (by simpa using hi), List.getElem?_map, e]; rfl
theorem relSt_start {K : PySem.W.Frag} {mg : Str → Option Value} {r : List Addr} {H : Hp} {N : List Str} {ds : List D} {vs : List V} (rl : RelDs K mg r H ds vs) : RelSt K mg r H (ds.map some ++ List.replicate (N.length - ds.length) none) (L2.start N vs) := by
  have hl := rl.length
  refine ⟨by unfold L2.start; simp [hl], fun i d e => ?_⟩
  by_cases hi : i < ds.length
  · rw [List.getElem?_append_left (by simpa using hi), List.getElem?_map] at e
    cases z : ds[i]? with
    | none => rw [z] at e; cases e
    | some d' =>
      rw [z] at e; cases e
      obtain ⟨v, e1, q⟩ := rl.get z
      exact ⟨v, start_get e1, q⟩
  · rw [List.getElem?_append_right (by simpa using hi), List.getElem?_replicate] at e
    split at e <;> cases e
/-- THE RULE of a def -/
theorem def_ok {P : Program} {w : World} {K : PySem.W.Frag} {mg : Str → Option Value} {base : Heap} {x qual : Str} {st : Stmt} {f : Addr} {fd : FuncData} {N ps : List Str} {k : Nat} {body : MS} (F : Fun K x qual st f fd) (S : FnScope N ps (defScope st))
    (hb : ∀ (cdv : Value) (A : Around) (outer : List Env) (s : Shared) (H : Hp) (E : XK), Room k (A.deeper (envOfC qual (defScope st) s.heap.objs.size f cdv)) →
      QSs (cxOf (L2.CX P w) P w K mg base N qual (defScope st) f cdv A outer s H E) (fun cls d _ H => E cls d H) (defBody st) body) :
    FnOk P w K mg base (L2.CX P w) (k + 1) f fd ps (spM K mg ps.length (runDef N.length body)) := by
  refine F.okX S (fun vs H Q E ⟨r, ds, h, rp, rl, hl, p⟩ => by rw [← rl.length]; exact hl) (fun cdv A outer s H vs Q E hr ⟨r, ds, h, rp, rl, hl, p⟩ => ?_)
  refine ⟨_, hb cdv A outer s H E hr, r, _, h, rp, relSt_start (N := N) rl, ?_⟩
  unfold runDef at p
  show PostS K mg _ r H _ (body (ds.map some ++ List.replicate (N.length - ds.length) none) h)
  cases z : body (ds.map some ++ List.replicate (N.length - ds.length) none) h with
  | nx s' h' => rw [z] at p; exact fun r' σ' H' e k rp' rs' => p r' .non H' e k rp' .non
  | rt d h' => rw [z] at p; exact fun r' v H' e k rp' rl' => p r' v H' e k rp' rl'
  | bk s' h' => rw [z] at p; exact p.elim
  | ct s' h' => rw [z] at p; exact p.elim
  | exc s' c fs h' => rw [z] at p; exact fun r' σ' cls dd H' e k rp' rs' xr => p r' cls dd H' e k rp' xr
  | bad => rw [z] at p; exact p.elim

theorem FnOk.sp {P : Program} {w : World} {K : PySem.W.Frag} {mg : Str → Option Value} {base : Heap} {CX : CXT} {k : Nat} {f : Addr} {fd : FuncData} {ps : List Str} {np : Nat} {m m' : List D → HP → R D} (F : FnOk P w K mg base CX k f fd ps (spM K mg np m))
    (e : ∀ ds h, ds.length = np → m' ds h = .bad ∨ m ds h = m' ds h) : FnOk P w K mg base CX k f fd ps (spM K mg np m') := F.imp fun vs H Q E ⟨r, ds, h, rp, rl, hl, p⟩ => ⟨r, ds, h, rp, rl, hl, by
  rcases e ds h hl with z | z
  · rw [z] at p; exact p.elim
  · rw [z]; exact p⟩

section
variable {X : Cx} {W : WX} {a b c e o : Expr} {st : Stmt} {es rest : List Expr} {sts : List Stmt} {ma mb mc : ME} {ta tb : MT} {t : MA} {pos pos' apos : Pos} {ms mt : MS}
variable {k : Nat} {f C : Addr} {fd : FuncData} {ps : List Str} {np : Nat} {m : List D → HP → R D} {x : Str} {p : Pos}
theorem callPost {K : PySem.W.Frag} {mg : Str → Option Value} {r : List Addr} {H : Hp} {σ : L2.St} {Q : VK} {x : R D} (p : Post K mg rD W r σ H Q x) : PostC K mg r H Q (fun cls d H => W cls d σ H) x := by
  cases x with
  | ok a h => exact p
  | exc c fs h => exact p
  | bad => exact p
theorem qe_call (F : FnOk X.prog X.w X.K X.mg X.base (L2.CX X.prog X.w) k f fd ps (spM X.K X.mg np m)) (hnp : np = (e :: es).length) (tk : Takes X W) (hr : Room k X.A) (hg : Gl X x) (hm : X.mg x = some (.ref f)) (hk : PySem.W.keepIn X.K (.ref f) = true) (hb : Binds X.K fd ps [])
    (ha : QA X W (e :: es) t) (ht : ∀ s h ds h', t s h = .ok ds h' → ds.length = (e :: es).length) (hdb : (x == ("__debug__" : Str)) = false := by decide) (he : starEach (e :: es) X.env = (false, eval e X.env) :: starEach es X.env := by rfl) (hpl : (backTo pos (starEach es X.env)).any (·.1) = false := by rfl) :
    QE X W (.Call (.Name x p) (e :: es) [] pos) (mCall m t) := (pe_callS F hr hg hm hk hb (fun σ => passAt tk σ) ha hdb he hpl).imp fun σ H Q q => by
  obtain ⟨r, s, h, rp, rs, p⟩ := q
  refine ⟨r, s, h, rp, rs, ?_⟩
  unfold mCall at p
  cases z : t s h with
  | ok ds h' =>
    rw [z] at p
    have hl := ht s h ds h' z
    exact fun r' vs H' e' k' rp' rl' => ⟨r', ds, h', rp', rl', by rw [hnp]; exact hl, callPost (Post.mono p e' k')⟩
  | exc c fs h' => rw [z] at p; exact p
  | bad => rw [z] at p; exact p.elim
theorem qe_call0 (F : FnOk X.prog X.w X.K X.mg X.base (L2.CX X.prog X.w) k f fd ps (spM X.K X.mg 0 m)) (tk : Takes X W) (hr : Room k X.A) (hg : Gl X x) (hm : X.mg x = some (.ref f)) (hk : PySem.W.keepIn X.K (.ref f) = true) (hb : Binds X.K fd ps [])
    (hdb : (x == ("__debug__" : Str)) = false := by decide) : QE X W (.Call (.Name x p) [] [] pos) (mCall m mNil) := by
  refine ⟨fun pins s σ H Q I q => ?_⟩
  refine wpAny_Call_Name_kw (ld_glob I hg hm ?_ hdb)
  obtain ⟨r, s0, h, rp, rs, p⟩ := q
  exact PySem.W.callWith_K0 I.kIn hk (run_fnS (us := []) (vs := []) (E := WE W) F hr hb (passAt tk σ) I .nil ⟨r, [], h, rp, .nil, rfl, callPost p⟩)
theorem len_nil : ∀ s h ds h', mNil s h = .ok ds h' → ds.length = 0 := fun s h ds h' e => by cases e; rfl
theorem len_cons {t : MA} {n : Nat} (q : ∀ s h ds h', t s h = .ok ds h' → ds.length = n) : ∀ s h ds h', mCons ma t s h = .ok ds h' → ds.length = n + 1 := fun s h ds h' e => by
  unfold mCons at e
  cases z : ma s h with
  | ok d h1 =>
    rw [z] at e
    have e : (t s h1).bind (fun xs h => R.ok (d :: xs) h) = .ok ds h' := e
    cases z2 : t s h1 with
    | ok xs h2 =>
      rw [z2] at e
      have e : R.ok (d :: xs) _ = .ok ds h' := e
      cases e
      rw [List.length_cons, q _ _ _ _ z2]
    | exc c fs h2 => rw [z2] at e; cases e
    | bad => rw [z2] at e; cases e
  | exc c fs h2 => rw [z] at e; cases e
  | bad => rw [z] at e; cases e

/-! ### what is walked -/
def itL : D → HP → R (List D × (HP → Prop)) := fun d h => match d with
  | .ref i => match h[i]? with
    | some (.lst xs) => .ok (xs, fun h => h[i]? = some (.lst xs)) h
    | some (.rdl xs) => .ok (xs, fun h => h[i]? = some (.rdl xs)) h
    | _ => .bad
  | _ => .bad
def iL (a : ME) : MI := fun s h => (a s h).bind itL
def itT : D → HP → R (List D × (HP → Prop)) := fun d h => match d with
  | .tup xs => .ok (xs, fun _ => True) h
  | _ => .bad
def iT (a : ME) : MI := fun s h => (a s h).bind itT
def itS : D → HP → R (List D × (HP → Prop)) := fun d h => match d with
  | .str x => .ok (x.cps.toList.map fun c => .str ⟨#[c]⟩, fun _ => True) h
  | _ => .bad
def iS (a : ME) : MI := fun s h => (a s h).bind itS
def itR1 : List D → HP → R (List D × (HP → Prop)) := fun ds h => match ds with
  | [.int n] => if -(2 ^ 62) ≤ n ∧ n < 2 ^ 62 then .ok ((List.range n.toNat).map fun (i : Nat) => .int (0 + i), fun _ => True) h else .bad
  | _ => .bad
def itR2 : List D → HP → R (List D × (HP → Prop)) := fun ds h => match ds with
  | [.int lo, .int hi] => if -(2 ^ 62) ≤ lo ∧ lo < 2 ^ 62 ∧ -(2 ^ 62) ≤ hi ∧ hi < 2 ^ 62 then .ok ((List.range (hi - lo).toNat).map fun (i : Nat) => .int (lo + i), fun _ => True) h else .bad
  | _ => .bad
def iR1 (a : MA) : MI := fun s h => (a s h).bind itR1
def iR2 (a : MA) : MI := fun s h => (a s h).bind itR2

theorem rIt.bind {α β : Type} {rr : RR α β} {K : PySem.W.Frag} {mg : Str → Option Value} {m : SD → HP → R α} {f : α → HP → R (List D × (HP → Prop))} {σ : L2.St} {H : Hp} {Q : It → Hp → Prop} (q : rIt K mg W (fun s h => (m s h).bind f) σ H Q) :
    tM K mg rr W m σ H (fun b H1 => ∃ r1 s a h1, Rep K mg r1 h1 H1 ∧ RelSt K mg r1 H1 s σ ∧ rr.rel K mg r1 H1 a b ∧ PostI K mg W r1 σ H1 Q (f a h1)) := by
  obtain ⟨r, s, h, rp, rs, p⟩ := q
  refine ⟨r, s, h, rp, rs, ?_⟩
  dsimp only at p
  cases z : m s h with
  | ok a h' =>
    rw [z] at p
    intro r' b H' e k rp' rl'
    refine ⟨r', s, a, h', rp', rs.mono e k, rl', ?_⟩
    have p : PostI K mg W r σ H Q (f a h') := p
    cases y : f a h' with
    | ok u h2 => rw [y] at p; exact fun r2 H2 J e2 k2 => p r2 H2 J (e.trans e2) (k.trans k2)
    | exc c fs h2 => rw [y] at p; exact fun r2 cls dd H2 e2 k2 => p r2 cls dd H2 (e.trans e2) (k.trans k2)
    | bad => rw [y] at p; exact p.elim
  | exc c fs h' => rw [z] at p; exact p
  | bad => rw [z] at p; exact p.elim

theorem sqL_lift {K : PySem.W.Frag} {H : Hp} {ad : Addr} {vs : List V} (q : (∃ ob, H ad = some (.frz ob (.lst vs))) ∨ SqL K (fun _ => none) ad vs) : SqL K H ad vs := by
  rcases q with ⟨ob, q⟩ | (q | ⟨ob, q⟩) | q
  · exact .inl (.inr ⟨ob, q⟩)
  · cases q
  · cases q
  · exact .inr q
/-- a list as it is read -/
theorem list_at {K : PySem.W.Frag} {mg : Str → Option Value} {r : List Addr} {h : HP} {H : Hp} {i : Nat} {ad : Addr} {xs : List D} (rp : Rep K mg r h H) (ea : r[i]? = some ad) (e : h[i]? = some (.lst xs) ∨ h[i]? = some (.rdl xs)) : ∃ vs, SqL K H ad vs ∧ RelDs K mg r H xs vs := by
  rcases e with e | e
  · obtain ⟨vs, q, rl⟩ := rp.obs i _ ad e ea
    exact ⟨vs, SqL.of q, rl⟩
  · obtain ⟨vs, q, rl⟩ := rp.obs i _ ad e ea
    exact ⟨vs, sqL_lift q, rl⟩
theorem jrel_list {K : PySem.W.Frag} {mg : Str → Option Value} {r0 : List Addr} {H0 : Hp} {i : Nat} {ad : Addr} {xs : List D} {G : HP → Prop} (ea : r0[i]? = some ad) (hG : ∀ h, G h → h[i]? = some (.lst xs) ∨ h[i]? = some (.rdl xs)) : JRel K mg r0 H0 (Itl K ad) xs G := by
  intro j r H h e k rp g
  obtain ⟨vs, sq, rl⟩ := list_at rp (e.get ea) (hG h g)
  refine ⟨fun d hd => ?_, fun hj => ⟨vs, sq, by rw [← rl.length]; exact hj⟩⟩
  obtain ⟨v, hv, rv⟩ := rl.get hd
  exact ⟨⟨vs, v, sq, hv⟩, fun y H' ⟨e1, e2⟩ => by subst e1; have := e2 vs sq; rw [hv] at this; cases this; exact ⟨Keep.refl _, rp, rv⟩⟩
theorem qi_list {tg : Expr} (ha : QE X W e ma) : QI X W tg e (iL ma) := (pi_list ha).imp fun σ H Q q => by
  obtain ⟨r, s, h, rp, rs, p⟩ := rIt.bind (rr := rD) (m := ma) (f := itL) q
  refine ⟨r, s, h, rp, rs, p.imp fun v H1 ⟨r1, s1, d, h1, rp1, rs1, rl1, p1⟩ => ?_⟩
  unfold itL at p1
  cases rl1 with
  | @ref i ad ea =>
    dsimp only at p1
    split at p1
    · rename_i xs hx
      obtain ⟨vs, sq, rl⟩ := list_at rp1 ea (.inl hx)
      exact ⟨ad, rfl, ⟨vs, sq⟩, p1 r1 H1 _ (Ext.refl _) (Keep.refl _) rp1 (jrel_list ea fun h g => .inl g)⟩
    · rename_i xs hx
      obtain ⟨vs, sq, rl⟩ := list_at rp1 ea (.inr hx)
      exact ⟨ad, rfl, ⟨vs, sq⟩, p1 r1 H1 _ (Ext.refl _) (Keep.refl _) rp1 (jrel_list ea fun h g => .inr g)⟩
    · exact p1.elim
  | _ => exact p1.elim
theorem qi_tup {tg : Expr} (ha : QE X W e ma) : QI X W tg e (iT ma) := (pi_tup ha).imp fun σ H Q q => by
  obtain ⟨r, s, h, rp, rs, p⟩ := rIt.bind (rr := rD) (m := ma) (f := itT) q
  refine ⟨r, s, h, rp, rs, p.imp fun v H1 ⟨r1, s1, d, h1, rp1, rs1, rl1, p1⟩ => ?_⟩
  unfold itT at p1
  cases rl1 with
  | @tup xs ad vs sq rl =>
    refine ⟨ad, rfl, ⟨vs, sq⟩, p1 r1 H1 _ (Ext.refl _) (Keep.refl _) rp1 ?_⟩
    intro j r H h e k rp g
    refine ⟨fun d hd => ?_, fun hj => ⟨vs, k.sqT sq, by rw [← rl.length]; exact hj⟩⟩
    obtain ⟨v, hv, rv⟩ := rl.get hd
    exact ⟨⟨vs, v, k.sqT sq, hv⟩, fun y H' ⟨e1, e2⟩ => by subst e1; have := e2 vs (k.sqT sq); rw [hv] at this; cases this; exact ⟨Keep.refl _, rp, rv.mono e k⟩⟩
  | _ => exact p1.elim
theorem qi_str {tg : Expr} (ha : QE X W e ma) : QI X W tg e (iS ma) := (pi_str ha).imp fun σ H Q q => by
  obtain ⟨r, s, h, rp, rs, p⟩ := rIt.bind (rr := rD) (m := ma) (f := itS) q
  refine ⟨r, s, h, rp, rs, p.imp fun v H1 ⟨r1, s1, d, h1, rp1, rs1, rl1, p1⟩ => ?_⟩
  unfold itS at p1
  cases rl1 with
  | str z =>
    refine ⟨z, rfl, p1 r1 H1 _ (Ext.refl _) (Keep.refl _) rp1 ?_⟩
    intro j r H h e k rp g
    refine ⟨fun d hd => ?_, fun hj => ?_⟩
    · rw [List.getElem?_map, Array.getElem?_toList] at hd
      cases q : z.cps[j]? with
      | none => rw [q] at hd; cases hd
      | some c =>
        rw [q] at hd; cases hd
        have hj : j < z.cps.size := (Array.getElem?_eq_some_iff.mp q).1
        exact ⟨hj, fun y H' ⟨e1, c', e2, e3⟩ => by subst e1; rw [q] at e2; cases e2; subst e3; exact ⟨Keep.refl _, rp, .str _⟩⟩
    · show z.cps.size ≤ j
      simpa using hj
  | _ => exact p1.elim
theorem jrel_range {K : PySem.W.Frag} {mg : Str → Option Value} {r0 : List Addr} {H0 : Hp} {lo : Int} {n : Nat} : JRel K mg r0 H0 (Itr lo n) ((List.range n).map fun (i : Nat) => D.int (lo + i)) (fun _ => True) := by
  intro j r H h e k rp g
  refine ⟨fun d hd => ?_, fun hj => by show n ≤ j; simpa using hj⟩
  have hj : j < n := by
    have := (List.getElem?_eq_some_iff.mp hd).1
    simpa using this
  rw [List.getElem?_map, List.getElem?_range hj] at hd
  cases hd
  exact ⟨hj, fun y H' ⟨e1, e2⟩ => by subst e1; subst e2; exact ⟨Keep.refl _, rp, .int _⟩⟩
theorem qi_range1 {tg : Expr} {q0 : Pos} (hg : Gl X "range") (hm : X.mg "range" = none) (ha : QA X W [e] t) (hs : starEach [e] X.env = [(false, eval e X.env)] := by rfl) : QI X W tg (.Call (.Name "range" q0) [e] [] pos) (iR1 t) := (pi_range1 hg hm ha hs).imp fun σ H Q q => by
  obtain ⟨r, s, h, rp, rs, p⟩ := rIt.bind (rr := rDs) (m := t) (f := itR1) q
  refine ⟨r, s, h, rp, rs, p.imp fun v H1 ⟨r1, s1, ds, h1, rp1, rs1, rl1, p1⟩ => ?_⟩
  unfold itR1 at p1
  split at p1
  · rename_i n
    by_cases hn : -(2 ^ 62) ≤ n ∧ n < 2 ^ 62
    · rw [if_pos hn] at p1
      cases rl1 with
      | cons a b =>
        cases b
        cases a
        exact ⟨n, rfl, hn.1, hn.2, p1 r1 H1 _ (Ext.refl _) (Keep.refl _) rp1 jrel_range⟩
    · rw [if_neg hn] at p1; exact p1.elim
  · exact p1.elim
theorem qi_range2 {tg : Expr} {q0 : Pos} (hg : Gl X "range") (hm : X.mg "range" = none) (ha : QA X W [e, a] t) (hs : starEach [e, a] X.env = [(false, eval e X.env), (false, eval a X.env)] := by rfl) (hs2 : starEach [a] X.env = [(false, eval a X.env)] := by rfl) : QI X W tg (.Call (.Name "range" q0) [e, a] [] pos) (iR2 t) := (pi_range2 hg hm ha hs hs2).imp fun σ H Q q => by
  obtain ⟨r, s, h, rp, rs, p⟩ := rIt.bind (rr := rDs) (m := t) (f := itR2) q
  refine ⟨r, s, h, rp, rs, p.imp fun v H1 ⟨r1, s1, ds, h1, rp1, rs1, rl1, p1⟩ => ?_⟩
  unfold itR2 at p1
  split at p1
  · rename_i lo hi
    by_cases hn : -(2 ^ 62) ≤ lo ∧ lo < 2 ^ 62 ∧ -(2 ^ 62) ≤ hi ∧ hi < 2 ^ 62
    · rw [if_pos hn] at p1
      cases rl1 with
      | cons a b =>
        cases b with
        | cons b c =>
          cases c
          cases a
          cases b
          exact ⟨lo, hi, rfl, hn, p1 r1 H1 _ (Ext.refl _) (Keep.refl _) rp1 jrel_range⟩
    · rw [if_neg hn] at p1; exact p1.elim
  · exact p1.elim
end
end PM
end
section
set_option Elab.async false
set_option linter.all false
set_option maxRecDepth 100000
set_option maxHeartbeats 1000000
namespace PM
open PySem PySem.Spec PyProof.Rows L2

/-! ### enumerate(list, start = k) -/
/-- as Ite, the count from k -/
def ItF (K : PySem.W.Frag) (a : Addr) (k : Int) : It :=
  ⟨fun i H => ∃ (xs : List V) (x : V), SqL K H a xs ∧ xs[i]? = some x, fun i H v H' => ∃ T x, v = .ref T ∧ H T = none ∧ H' = upd H T (.tup [.int (k + (i : Int)), x]) ∧ ∀ xs, SqL K H a xs → xs[i]? = some x, fun i H => ∃ xs : List V, SqL K H a xs ∧ xs.length ≤ i⟩
theorem turn_enumF {P : Program} {w : World} {K : PySem.W.Frag} {elts : List Expr} {kk : Nat} {tpos : Pos} (a e it : Addr) (k : Int) :
    Turn P w K (.Tuple elts kk tpos) (ItF K a k) [e, it] e (fun i h => (∃ old, IsEnum h e it (k + ((i : Nat) : Int)) old) ∧ h.IsListIter it a i ∧ e ≠ it) where
  mem := List.mem_cons_self
  obj := fun i h st b hb => by
    obtain ⟨⟨old, he⟩, ⟨o, ho, _, hd⟩, _⟩ := st
    rcases List.mem_cons.mp hb with z | z
    · subst z; exact ⟨_, he, fun v q => nomatch q⟩
    · rw [List.mem_singleton.mp z]; exact ⟨o, ho, fun v q => by rw [hd] at q; cases q⟩
  keep := fun i h h' st kp => ⟨let ⟨old, he⟩ := st.1; ⟨old, kp e (by simp) _ he⟩, st.2.1.at fun o q => kp it (by simp) o q, st.2.2⟩
  item := by
    intro X hP hw hK hc i pins s σ H E I hf st hg
    subst hP hw hK
    obtain ⟨⟨old, he⟩, hit, hne⟩ := st
    obtain ⟨xs, x, hq, hx⟩ := hg
    obtain ⟨its, rv, pl, hz⟩ := I.list hq
    obtain ⟨u, hu, ru⟩ := rv.get hx
    have hel : e < s.heap.objs.size := Heap.lt_size he
    have hil : it < s.heap.objs.size := by obtain ⟨_, q, _⟩ := hit; exact Heap.lt_size q
    have hai : a ≠ it := fun z => by
      obtain ⟨o, ho, hcc, hd⟩ := hit
      obtain ⟨o2, ho2, hcc2, n2, hd2⟩ := pl.isList
      rw [z, ho] at ho2; cases ho2; rw [hd] at hd2; cases hd2
    have hae : e ∉ [it, a] := fun hm => by
      rcases List.mem_cons.mp hm with z | z
      · exact hne z
      · obtain ⟨o2, ho2, hcc2, n2, hd2⟩ := pl.isList
        have z := List.mem_singleton.mp z
        have he2 : s.heap.get? a = some _ := z ▸ he
        rw [he2] at ho2; cases ho2; cases hd2
    have hlt : i < its.toArray.size := by
      have := (List.getElem?_eq_some_iff.mp hu).1
      simpa using this
    refine wpAny_pyNext_enum_itemC (Draws.list (A := X.A.in1) (I.ok.hd hc) it a hai its.toArray) he ⟨hit, pl.isList⟩ hlt hne hae fun x' h' tk hP ho hit' hT hsz hk => ?_
    have ex : x' = u := by
      have hP' : its.toArray[i]? = some x' := hP
      rw [List.getElem?_toArray, hu] at hP'
      exact (Option.some.inj hP').symm
    subst ex
    refine ⟨_, rfl, wpAny_letOwnedTupleGo_enum (s := { s with heap := h', toks := tk + 1 }) ho fun h2 he' sb => ?_⟩
    have hT2 : h2.get? s.heap.objs.size = some { cls := .type "tuple", data := .seq #[.int (k + (i : Int)) tk, x'] } := (sb.2 _ (Nat.ne_of_gt hel)).trans hT
    have new : ObjOk X.prog X.w (upd H s.heap.objs.size (.tup [.int (k + (i : Int)), x])) h2 s.heap.objs.size (.tup [.int (k + (i : Int)), x]) :=
      ⟨line_of (by show 2 ≤ 1000000; decide), [.int (k + (i : Int)) tk, x'], .cons ⟨tk, rfl⟩ (.cons ru .nil), ⟨_, hT2, rfl, _, rfl⟩⟩
    have I1 : Inv X pins σ (upd H s.heap.objs.size (.tup [.int (k + (i : Int)), x])) { s with heap := h2, toks := tk + 1 } :=
      I.turnedNew (ch := [e, it]) (fun b ob hb q => (sb.2 b fun z => hb (z ▸ List.mem_cons_self)).trans (hk b ob (fun z => hb (z ▸ List.mem_cons_self)) (fun z => hb (z ▸ List.mem_cons_of_mem _ List.mem_cons_self)) q)) hf (Nat.le_refl _) new
    refine ⟨.ref s.heap.objs.size, _, I1, rfl, ⟨_, x, rfl, I.hok.fresh (Nat.le_refl _), rfl, fun ys hy => by rw [I.list_inj hy hq]; exact hx⟩, ⟨⟨x', ?_⟩, hit'.1.at fun o q => (sb.2 it hne.symm).trans q, hne⟩, fun b hb => ?_⟩
    · have e1 : k + ((i + 1 : Nat) : Int) = k + (i : Int) + 1 := by omega
      rw [e1]; exact he'
    · have hb' : b < s.heap.objs.size := by
        rcases List.mem_cons.mp hb with z | z
        · subst z; exact hel
        · rw [List.mem_singleton.mp z]; exact hil
      rw [upd_ne (Nat.ne_of_lt hb')]
      exact (hf b hb).1
  done := by
    intro X hP hw hK hc i pins s σ H E I hf st hg
    subst hP hw hK
    obtain ⟨⟨old, he⟩, hit, hne⟩ := st
    obtain ⟨xs, hq, hx⟩ := hg
    obtain ⟨its, rv, pl, hz⟩ := I.list hq
    obtain ⟨f0, f1, f2, f3, f4, f5⟩ := hf it (by simp)
    have hl := rv.length
    have hT : s.TypeIs (.ref e) "enumerate" := ⟨_, he, rfl⟩
    unfold pyNext
    refine wpAny_bind (wpAny_attempt (wpAny_callSpecial?_slot (name := Str.ofString "__next__") hT F.slot_enumerate_next
      (wpAny_call_entry F.slot_enumerate_next hT F.entry_enumerate_next ?_ (F.args_enumerate_next_1 _))))
    show wpAny _ _ (field (.ref e) 2 >>= _) _ _ _
    refine wpAny_bind (wpAny_field he rfl (x := .ref it) rfl ?_)
    refine wpAny_bind (wpAny_nextOf_list_end (A := X.A.in1) (I.ok.hd hc) hit pl.isList (by simp; omega) fun h' x eb hx' => ?_)
    obtain ⟨o, ho, hcl⟩ := hx'
    refine wpAny_bind (wpAny_isInstance (T := "StopIteration") (b := true) ⟨o, ho, hcl⟩ isSubtype_stop ?_)
    exact wpAny_pure ⟨rfl, I.turned (t' := s.toks) (fun b o hb q => eb b o hb q) f0 f1 f3 f4 f5⟩
  self := fun A i s Q E st h => let ⟨⟨_, he⟩, _⟩ := st; wpAny_pyIter_enum he h
theorem callWith_tyKw {M : Model} {A : Around} {E : Value → Shared → Prop} {s : Shared} {pos : Pos} {T : String} {first : List Value} {args : List (Bool × Sem Value)} {kws : List (Option Str × Sem Value)} {Q : Value → Shared → Prop}
    (h1 : args.any (·.1) = false) (h2 : kws.any (·.1.isNone) = false) (h : wpAny M A (evalArgs (.type T) true args kws) (fun a s1 => wpAny M A (call (.type T) (first ++ a.pos) a.kw) Q E s1) E s) : wpAny M A (callWith pos (.type T) first args kws) Q E s := by
  unfold callWith
  refine wpAny_bind (wpAny_holding (wpAny_mono h (fun a s1 q => wpAny_bind (wpAny_standAt ?_)) fun _ _ x => x))
  simp only [h1, h2, Bool.or_false]
  refine wpAny_bind (wpAny_pure ?_)
  exact wpAny_bind (wpAny_mono q (fun r s2 hr => wpAny_bind (wpAny_holding (wpAny_point (wpAny_pure hr)))) fun _ _ x => x)
def iEnumF (K : PySem.W.Frag) (k : Int) (ta : TA) : TI := fun σ H R => ta σ H fun vs H1 => ∃ a xs, vs = [.ref a] ∧ SqL K H1 a xs ∧ R (ItF K a k) H1
theorem pi_enumF {X : Cx} {e : Expr} {ta : TA} {p pos tpos kp cp : Pos} {elts : List Expr} {kk : Nat} {k : Int} {j} (hk0 : -(2 ^ 63) ≤ k) (hk1 : k < 2 ^ 63) (hg : Gl X "enumerate") (hm : X.mg "enumerate" = none) (ha : PA X [e] ta)
    (hs : starEach [e] X.env = [(false, eval e X.env)] := by rfl) :
    PI X (.Tuple elts kk tpos) (.Call (.Name "enumerate" p) [e] [⟨some "start", .Constant (.int k) j cp, kp⟩] pos) (iEnumF X.K k ta) := by
  refine ⟨fun pins s σ H R I h => ?_⟩
  refine wpAny_Call_Name_kw (ld_blt I hg hm boot_enumerate ?_)
  have hA := ha.run pos pins s σ H _ I h
  rw [hs] at hA ⊢
  refine callWith_tyKw (by rfl) (by rfl) (evalArgs_kwB (by rfl) (thn hA fun us s1 ⟨vs, H1, I1, r1, a, xs, ex, hq, q⟩ => kws_cons (wpAny_Constant_int (kws_nil ?_))))
  subst ex
  cases r1 with
  | cons r rr =>
    cases rr
    cases r
    have I1' : Inv X pins σ H1 { s1 with toks := s1.toks + 1 } := I1.tok _
    obtain ⟨its, rv, p', hz⟩ := I1'.list hq
    refine enum_begins_start (begins_list a its.toArray) p'.isList hk0 hk1 fun h' he hit hsz hk => wpAny_pyIter_enum he ?_
    have I2 : Inv X pins σ H1 { s1 with heap := h', toks := s1.toks + 1 } := I1'.kept (t' := s1.toks + 1) hk
    refine ⟨s1.heap.objs.size + 1, [s1.heap.objs.size + 1, s1.heap.objs.size], _, _, H1, rfl, I2, turn_enumF a (s1.heap.objs.size + 1) s1.heap.objs.size k, ⟨⟨.none, by simpa using he⟩, ⟨_, hit, rfl, rfl⟩, Nat.succ_ne_self _⟩, fun b hb => ?_, q⟩
    have hle : s1.heap.objs.size ≤ b := by
      rcases List.mem_cons.mp hb with z | z
      · rw [z]; exact Nat.le_succ _
      · rw [List.mem_singleton.mp z]; exact Nat.le_refl _
    exact I1.fpOk hle (I1.hok.fresh hle)

/-! the plain layer's -/
def enumDs (k : Int) (xs : List D) : List D := xs.mapIdx fun i d => .tup [.int (k + (i : Int)), d]
def itE (k : Int) : List D → HP → R (List D × (HP → Prop)) := fun ds h => match ds with
  | [.ref i] => match h[i]? with
    | some (.lst xs) => .ok (enumDs k xs, fun h => h[i]? = some (.lst xs)) h
    | some (.rdl xs) => .ok (enumDs k xs, fun h => h[i]? = some (.rdl xs)) h
    | _ => .bad
  | _ => .bad
def iE (k : Int) (a : MA) : MI := fun s h => (a s h).bind (itE k)
theorem jrel_enum {K : PySem.W.Frag} {mg : Str → Option Value} {r0 : List Addr} {H0 : Hp} {i : Nat} {ad : Addr} {xs : List D} {G : HP → Prop} {k : Int} (ea : r0[i]? = some ad) (hG : ∀ h, G h → h[i]? = some (.lst xs) ∨ h[i]? = some (.rdl xs)) : JRel K mg r0 H0 (ItF K ad k) (enumDs k xs) G := by
  intro j r H h e kp rp g
  obtain ⟨vs, sq, rl⟩ := list_at rp (e.get ea) (hG h g)
  refine ⟨fun d hd => ?_, fun hj => ⟨vs, sq, by rw [← rl.length]; simpa [enumDs] using hj⟩⟩
  unfold enumDs at hd
  rw [List.getElem?_mapIdx] at hd
  cases z : xs[j]? with
  | none => rw [z] at hd; cases hd
  | some d' =>
    rw [z] at hd; cases hd
    obtain ⟨v, hv, rv⟩ := rl.get z
    refine ⟨⟨vs, v, sq, hv⟩, fun y H' ⟨T, x, e1, e2, e3, e4⟩ => ?_⟩
    have e5 := e4 vs sq
    rw [hv] at e5
    cases e5
    subst e1 e3
    have kn : Keep H (upd H T (.tup [.int (k + (j : Int)), v])) := Keep.new e2
    exact ⟨kn, rp.fresh e2, .tup (SqT.of upd_same) (.cons (.int _) (.cons (rv.mono (Ext.refl _) kn) .nil))⟩
theorem qi_enum {X : Cx} {W : WX} {e : Expr} {t : MA} {p pos tpos kp cp : Pos} {elts : List Expr} {kk : Nat} {k : Int} {j} (hk0 : -(2 ^ 63) ≤ k) (hk1 : k < 2 ^ 63) (hg : Gl X "enumerate") (hm : X.mg "enumerate" = none) (ha : QA X W [e] t)
    (hs : starEach [e] X.env = [(false, eval e X.env)] := by rfl) :
    QI X W (.Tuple elts kk tpos) (.Call (.Name "enumerate" p) [e] [⟨some "start", .Constant (.int k) j cp, kp⟩] pos) (iE k t) := (pi_enumF hk0 hk1 hg hm ha hs).imp fun σ H Q q => by
  obtain ⟨r, s, h, rp, rs, p⟩ := rIt.bind (rr := rDs) (m := t) (f := itE k) q
  refine ⟨r, s, h, rp, rs, p.imp fun v H1 ⟨r1, s1, ds, h1, rp1, rs1, rl1, p1⟩ => ?_⟩
  unfold itE at p1
  split at p1
  · rename_i i
    cases rl1 with
    | @cons x v xs vs a b =>
      cases b
      cases a with
      | ref ea =>
        split at p1
        · rename_i xs hx
          obtain ⟨vs, sq, rl⟩ := list_at rp1 ea (.inl hx)
          exact ⟨_, vs, rfl, sq, p1 r1 H1 _ (Ext.refl _) (Keep.refl _) rp1 (jrel_enum ea fun h g => .inl g)⟩
        · rename_i xs hx
          obtain ⟨vs, sq, rl⟩ := list_at rp1 ea (.inr hx)
          exact ⟨_, vs, rfl, sq, p1 r1 H1 _ (Ext.refl _) (Keep.refl _) rp1 (jrel_enum ea fun h g => .inr g)⟩
        · exact p1.elim
  · exact p1.elim
end PM
end
section
set_option Elab.async false
set_option linter.all false
set_option maxRecDepth 100000
set_option maxHeartbeats 1000000
namespace PM
open PySem PySem.Spec PyProof.Rows L2

section
variable {X : Cx} {K : PySem.W.Frag} {mg : Str → Option Value} {r : List Addr} {H : Hp} {h : HP}

/-! ### numbers and texts -/
def addG : D → D → HP → Option (D × HP) := fun x y h => match x, y with
  | .int i, .int j => some (.int (i + j), h)
  | .str a, .str b => if a.length + b.length ≤ 1000000 then some (.str (a ++ b), h) else none
  | .ref i, .ref j => match h[i]?, h[j]? with
    | some (.lst xs), some (.lst ys) => if xs.length + ys.length ≤ 1000000 then some (.ref h.length, h ++ [.lst (xs ++ ys)]) else none
    | _, _ => none
  | .tup xs, .tup ys => if xs ≠ [] ∧ xs.length + ys.length ≤ 1000000 then some (.tup (xs ++ ys), h) else none
  | _, _ => none
theorem nil_of {xs : List D} {vs : List V} (rl : RelDs K mg r H xs vs) : xs = [] ↔ vs = [] := by
  cases rl with
  | nil => simp
  | cons _ _ => simp
theorem op_addG : OpR X (binaryOp .Add) (rV2 X.K X.mg addG) := by
  intro pins s σ H x y v u Q I rx ry ⟨r, a, b, h, rp, ra, rb, p⟩
  unfold addG at p
  cases ra with
  | int i =>
    cases rb with
    | int j => exact op_add pins s σ H _ _ v u Q I rx ry ⟨i, j, rfl, rfl, p.here rp (.int _)⟩
    | _ => exact p.elim
  | str a =>
    cases rb with
    | str b =>
      dsimp only at p
      by_cases hz : a.length + b.length ≤ 1000000
      · rw [if_pos hz] at p
        exact op_add_str pins s σ H _ _ v u Q I rx ry ⟨a, b, rfl, rfl, line_of hz, p.here rp (.str _)⟩
      · rw [if_neg hz] at p; exact p.elim
    | _ => exact p.elim
  | @ref i ad ea =>
    cases rb with
    | @ref j bd eb =>
      dsimp only at p
      split at p
      · rename_i xs ys hx hy
        by_cases hz : xs.length + ys.length ≤ 1000000
        · rw [if_pos hz] at p
          obtain ⟨vs, q1, rl1⟩ := rp.obs i _ ad hx ea
          obtain ⟨us, q2, rl2⟩ := rp.obs j _ bd hy eb
          exact op_cat pins s σ H _ _ v u Q I rx ry ⟨ad, bd, vs, us, rfl, rfl, q1, q2, line_of (by rw [← rl1.length, ← rl2.length]; exact hz), fun p' hp => p.lst rp (rl1.append rl2) hp⟩
        · rw [if_neg hz] at p; exact p.elim
      · exact p.elim
    | _ => exact p.elim
  | @tup xs ad vs sq rl =>
    cases rb with
    | @tup ys bd us sq2 rl2 =>
      dsimp only at p
      by_cases hz : xs ≠ [] ∧ xs.length + ys.length ≤ 1000000
      · rw [if_pos hz] at p
        refine op_catT pins s σ H _ _ v u Q I rx ry ⟨ad, bd, vs, us, rfl, rfl, sq, sq2, fun e => hz.1 ((nil_of rl).mpr e), line_of (by rw [← rl.length, ← rl2.length]; exact hz.2), fun e => ?_, fun e p' hp => p.tup rp (rl.append rl2) hp⟩
        refine p.here rp (.tup sq ?_)
        have e2 := (nil_of rl2).mpr e
        subst e2
        rw [List.append_nil]; exact rl
      · rw [if_neg hz] at p; exact p.elim
    | _ => exact p.elim
  | _ => exact p.elim
theorem iop_addG : OpR X (inplaceOp .Add) (rV2 X.K X.mg fun x y h => match x, y with
  | .int i, .int j => some (.int (i + j), h)
  | .str a, .str b => if a.length + b.length ≤ 1000000 then some (.str (a ++ b), h) else none
  | _, _ => none) := by
  intro pins s σ H x y v u Q I rx ry ⟨r, a, b, h, rp, ra, rb, p⟩
  cases ra with
  | int i =>
    cases rb with
    | int j => exact iop_add pins s σ H _ _ v u Q I rx ry ⟨i, j, rfl, rfl, p.here rp (.int _)⟩
    | _ => exact p.elim
  | str a =>
    cases rb with
    | str b =>
      dsimp only at p
      by_cases hz : a.length + b.length ≤ 1000000
      · rw [if_pos hz] at p
        exact iop_add_str pins s σ H _ _ v u Q I rx ry ⟨a, b, rfl, rfl, line_of hz, p.here rp (.str _)⟩
      · rw [if_neg hz] at p; exact p.elim
    | _ => exact p.elim
  | _ => exact p.elim
/-- an operator of whole numbers with a condition -/
def intG (C : Int → Int → Bool) (g : Int → Int → Int) : D → D → HP → Option (D × HP) := fun x y h => match x, y with
  | .int i, .int j => if C i j = true then some (.int (g i j), h) else none
  | _, _ => none
theorem op_intG {f : Value → Value → Sem Value} {C : Int → Int → Prop} {Cb : Int → Int → Bool} {g : Int → Int → Int} (ho : OpR X f (rI C fun i j => .int (g i j))) (hC : ∀ i j, Cb i j = true → C i j) : OpR X f (rV2 X.K X.mg (intG Cb g)) := by
  intro pins s σ H x y v u Q I rx ry ⟨r, a, b, h, rp, ra, rb, p⟩
  unfold intG at p
  cases ra with
  | int i =>
    cases rb with
    | int j =>
      dsimp only at p
      by_cases hz : Cb i j = true
      · rw [if_pos hz] at p
        exact ho pins s σ H _ _ v u Q I rx ry ⟨i, j, rfl, rfl, hC i j hz, p.here rp (.int _)⟩
      · rw [if_neg hz] at p; exact p.elim
    | _ => exact p.elim
  | _ => exact p.elim
def intG0 (g : Int → Int → Int) : D → D → HP → Option (D × HP) := fun x y h => match x, y with
  | .int i, .int j => some (.int (g i j), h)
  | _, _ => none
theorem op_intG0 {f : Value → Value → Sem Value} {g : Int → Int → Int} (ho : OpR X f (rI0 fun i j => .int (g i j))) : OpR X f (rV2 X.K X.mg (intG0 g)) := by
  intro pins s σ H x y v u Q I rx ry ⟨r, a, b, h, rp, ra, rb, p⟩
  unfold intG0 at p
  cases ra with
  | int i =>
    cases rb with
    | int j => exact ho pins s σ H _ _ v u Q I rx ry ⟨i, j, rfl, rfl, p.here rp (.int _)⟩
    | _ => exact p.elim
  | _ => exact p.elim
def cmpG (g : Int → Int → Bool) : D → D → HP → Option (D × HP) := fun x y h => match x, y with
  | .int i, .int j => some (.bl (g i j), h)
  | _, _ => none
theorem op_cmpG {f : Value → Value → Sem Value} {g : Int → Int → Bool} (ho : OpR X f (rI0 fun i j => .bl (g i j))) : OpR X f (rV2 X.K X.mg (cmpG g)) := by
  intro pins s σ H x y v u Q I rx ry ⟨r, a, b, h, rp, ra, rb, p⟩
  unfold cmpG at p
  cases ra with
  | int i =>
    cases rb with
    | int j => exact ho pins s σ H _ _ v u Q I rx ry ⟨i, j, rfl, rfl, p.here rp (.bl _)⟩
    | _ => exact p.elim
  | _ => exact p.elim
abbrev subG := intG0 fun i j => i - j
theorem op_subG : OpR X (binaryOp .Sub) (rV2 X.K X.mg subG) := op_intG0 op_sub
def cMul (i j : Int) : Bool := (decide (-(2 ^ 64) < i) && decide (i < 2 ^ 64)) || (decide (-(2 ^ 64) < j) && decide (j < 2 ^ 64))
theorem cMul_ok (i j : Int) (h : cMul i j = true) : CMul i j := by
  unfold cMul at h
  simp only [Bool.or_eq_true, Bool.and_eq_true, decide_eq_true_eq] at h
  exact h
def mulG : D → D → HP → Option (D × HP) := fun x y h => match x, y with
  | .int i, .int j => if cMul i j = true then some (.int (i * j), h) else none
  | .str a, .int j => if 1 < j ∧ j ≤ 1000 ∧ a.length ≤ 1000 then some (.str (Txt.mul a j), h) else none
  | _, _ => none
theorem op_mulG : OpR X (binaryOp .Mult) (rV2 X.K X.mg mulG) := by
  intro pins s σ H x y v u Q I rx ry ⟨r, a, b, h, rp, ra, rb, p⟩
  unfold mulG at p
  cases ra with
  | int i =>
    cases rb with
    | int j =>
      dsimp only at p
      by_cases hz : cMul i j = true
      · rw [if_pos hz] at p
        exact op_mul pins s σ H _ _ v u Q I rx ry ⟨i, j, rfl, rfl, cMul_ok i j hz, p.here rp (.int _)⟩
      · rw [if_neg hz] at p; exact p.elim
    | _ => exact p.elim
  | str a =>
    cases rb with
    | int j =>
      dsimp only at p
      by_cases hz : 1 < j ∧ j ≤ 1000 ∧ a.length ≤ 1000
      · rw [if_pos hz] at p
        obtain ⟨t, rfl⟩ := rx
        obtain ⟨t2, rfl⟩ := ry
        have hle : a.length * j.toNat ≤ 1000 * 1000 := Nat.mul_le_mul hz.2.2 (by omega)
        refine SB.mul ⟨?_, fun _ _ => ?_, fun _ _ => ?_⟩ fun t' k => ⟨.str (Txt.mul a j), H, I.tok k, ⟨t', rfl⟩, p.here rp (.str _)⟩
        · simp; omega
        · have h1 : (1000 : Int) ≤ (2 ^ 63 - 1) / j := Int.le_ediv_of_mul_le (by omega) (by omega)
          have h3 := hz.2.2
          omega
        · unfold Builtin.Str.tooLong
          have := line_of hle
          simp; exact this
      · rw [if_neg hz] at p; exact p.elim
    | _ => exact p.elim
  | _ => exact p.elim
abbrev modG := intG (fun _ j => decide (j ≠ 0)) fun i j => i.fmod j
theorem op_modG : OpR X (binaryOp .Mod) (rV2 X.K X.mg modG) := op_intG op_modN fun i j h => by have q := of_decide_eq_true (p := j ≠ 0) h; exact q
abbrev fdivG := intG (fun _ j => decide (j ≠ 0 ∧ j.natAbs < 1073741824)) fun i j => i.fdiv j
theorem op_fdivG : OpR X (binaryOp .FloorDiv) (rV2 X.K X.mg fdivG) := op_intG op_fdivN fun i j h => by have q := of_decide_eq_true (p := j ≠ 0 ∧ j.natAbs < 1073741824) h; exact q
abbrev powG := intG (fun i j => decide (0 ≤ j ∧ j ≤ 1000000 ∧ i.natAbs < 2 ^ 64)) fun i j => i ^ j.toNat
theorem op_powG : OpR X (binaryOp .Pow) (rV2 X.K X.mg powG) := op_intG op_pow fun i j h => by have q := of_decide_eq_true (p := 0 ≤ j ∧ j ≤ 1000000 ∧ i.natAbs < 2 ^ 64) h; exact q
theorem iop_subG : OpR X (inplaceOp .Sub) (rV2 X.K X.mg subG) := op_intG0 iop_sub

/-- an order: numbers, texts -/
def ordG (g : Int → Int → Bool) (f : Str → Str → Bool) : D → D → HP → Option (D × HP) := fun x y h => match x, y with
  | .int i, .int j => some (.bl (g i j), h)
  | .str i, .str j => some (.bl (f i j), h)
  | _, _ => none
theorem op_ordG {fn : Value → Value → Sem Value} {g : Int → Int → Bool} {f : Str → Str → Bool} (ho : OpR X fn (rI0 fun i j => .bl (g i j))) (hs : OpR X fn (fun x y H Q => ∃ i j, x = .str i ∧ y = .str j ∧ Q (.bl (f i j)) H)) : OpR X fn (rV2 X.K X.mg (ordG g f)) := by
  intro pins s σ H x y v u Q I rx ry ⟨r, a, b, h, rp, ra, rb, p⟩
  unfold ordG at p
  cases ra with
  | int i =>
    cases rb with
    | int j => exact ho pins s σ H _ _ v u Q I rx ry ⟨i, j, rfl, rfl, p.here rp (.bl _)⟩
    | _ => exact p.elim
  | str i =>
    cases rb with
    | str j => exact hs pins s σ H _ _ v u Q I rx ry ⟨i, j, rfl, rfl, p.here rp (.bl _)⟩
    | _ => exact p.elim
  | _ => exact p.elim
end
end PM
end
section
set_option Elab.async false
set_option linter.all false
set_option maxRecDepth 100000
set_option maxHeartbeats 1000000
namespace PM
open PySem PySem.Spec PyProof.Rows L2

section
variable {X : Cx} {K : PySem.W.Frag} {mg : Str → Option Value} {r : List Addr} {H : Hp} {h : HP}
abbrev ltG := ordG (fun i j => decide (i < j)) (fun i j => decide (i.cps.toList < j.cps.toList))
abbrev leG := ordG (fun i j => decide (i ≤ j)) (fun i j => !decide (j.cps.toList < i.cps.toList))
abbrev gtG := ordG (fun i j => decide (j < i)) (fun i j => decide (j.cps.toList < i.cps.toList))
abbrev geG := ordG (fun i j => decide (j ≤ i)) (fun i j => !decide (i.cps.toList < j.cps.toList))
theorem op_ltG : OpR X (compareOp .Lt) (rV2 X.K X.mg ltG) := op_ordG op_lt op_lt_str
theorem op_leG : OpR X (compareOp .LtE) (rV2 X.K X.mg leG) := op_ordG op_le op_le_str
theorem op_gtG : OpR X (compareOp .Gt) (rV2 X.K X.mg gtG) := op_ordG op_gt op_gt_str
theorem op_geG : OpR X (compareOp .GtE) (rV2 X.K X.mg geG) := op_ordG op_ge op_ge_str

/-! ### what is, what equals -/
def isNon : D → Bool
  | .non => true
  | _ => false
def isG (neg : Bool) : D → D → HP → Option (D × HP) := fun x y h => match y with
  | .non => some (.bl (if neg then !isNon x else isNon x), h)
  | _ => none
theorem isNon_rel {d : D} {v : V} (rl : RelD K mg r H d v) : decide (v = .non) = isNon d := by
  cases rl <;> first | rfl | (simp [isNon])
theorem op_isG : OpR X (compareOp .Is) (rV2 X.K X.mg (isG false)) := by
  intro pins s σ H x y v u Q I rx ry ⟨r, a, b, h, rp, ra, rb, p⟩
  unfold isG at p
  cases rb with
  | non => exact op_isN pins s σ H _ _ v u Q I rx ry ⟨rfl, by rw [isNon_rel ra]; exact p.here rp (.bl _)⟩
  | _ => exact p.elim
theorem op_isnG : OpR X (compareOp .IsNot) (rV2 X.K X.mg (isG true)) := by
  intro pins s σ H x y v u Q I rx ry ⟨r, a, b, h, rp, ra, rb, p⟩
  unfold isG at p
  cases rb with
  | non => exact op_notN pins s σ H _ _ v u Q I rx ry ⟨rfl, by rw [isNon_rel ra]; exact p.here rp (.bl _)⟩
  | _ => exact p.elim
/-- a flat value as it stands -/
def flatD : D → Option V
  | .non => some .non
  | .bl b => some (.bl b)
  | .int i => some (.int i)
  | .str x => some (.str x)
  | _ => none
theorem flat_rel {d : D} {v w : V} (rl : RelD K mg r H d v) (e : flatD d = some w) : v = w ∧ flatV v = true := by
  cases rl <;> first | (cases e; exact ⟨rfl, rfl⟩) | cases e
def flatDs : List D → Option (List V)
  | [] => some []
  | d :: ds => match flatD d, flatDs ds with
    | some v, some vs => some (v :: vs)
    | _, _ => none
theorem flats_rel : ∀ {ds : List D} {vs ws : List V}, RelDs K mg r H ds vs → flatDs ds = some ws → vs = ws ∧ vs.all flatV = true
  | _, _, _, .nil, e => by cases e; exact ⟨rfl, rfl⟩
  | d :: ds, v :: vs, ws, .cons a t, e => by
    unfold flatDs at e
    cases e1 : flatD d with
    | none => rw [e1] at e; cases e
    | some w =>
      cases e2 : flatDs ds with
      | none => rw [e1, e2] at e; cases e
      | some ws' =>
        rw [e1, e2] at e
        cases e
        obtain ⟨z1, z2⟩ := flat_rel a e1
        obtain ⟨z3, z4⟩ := flats_rel t e2
        subst z1 z3
        exact ⟨rfl, by rw [List.all_cons, z2, z4]; rfl⟩
def toPy : Nat → HP → D → Option PyData
  | 0, _, _ => none
  | n + 1, h, d => match d with
    | .non => some .none
    | .bl b => some (.bool b)
    | .int i => some (.int i)
    | .str x => some (.str x)
    | .tup xs => (xs.mapM (toPy n h)).map PyData.tuple
    | .ref i => match h[i]? with
      | some (.lst xs) => (xs.mapM (toPy n h)).map PyData.list
      | some (.rdl xs) => (xs.mapM (toPy n h)).map PyData.list
      | _ => none
    | _ => none
theorem dp_all {f : D → Option PyData} (hf : ∀ d p v, f d = some p → RelD K mg r H d v → Dp K H v p) : ∀ (ds : List D) (ps : List PyData) (vs : List V), ds.mapM f = some ps → RelDs K mg r H ds vs → DpAll K H vs ps
  | [], ps, vs, e, rl => by cases rl; simp at e; subst e; exact .nil
  | d :: ds, ps, vs, e, rl => by
    cases rl with
    | cons a t =>
      rw [List.mapM_cons] at e
      cases e1 : f d with
      | none => rw [e1] at e; cases e
      | some p =>
        rw [e1] at e
        cases e2 : ds.mapM f with
        | none => rw [e2] at e; cases e
        | some ps' =>
          rw [e2] at e
          cases e
          exact .cons (hf d p _ e1 a) (dp_all hf ds ps' _ e2 t)
theorem toPy_ok (rp : Rep K mg r h H) : ∀ (n : Nat) (d : D) (p : PyData) (v : V), toPy n h d = some p → RelD K mg r H d v → Dp K H v p
  | 0, _, _, _, e, _ => by cases e
  | n + 1, d, p, v, e, rl => by
    unfold toPy at e
    cases rl with
    | non => cases e; exact .non
    | bl b => cases e; exact .bl b
    | int i => cases e; exact .int i
    | str x => cases e; exact .str x
    | @tup xs a vs sq t =>
      dsimp only at e
      cases e1 : xs.mapM (toPy n h) with
      | none => rw [e1] at e; cases e
      | some ps => rw [e1] at e; cases e; exact .tup sq (dp_all (fun d p v => toPy_ok rp n d p v) xs ps vs e1 t)
    | @ref i a ea =>
      dsimp only at e
      split at e
      · rename_i xs hx
        cases e1 : xs.mapM (toPy n h) with
        | none => rw [e1] at e; cases e
        | some ps =>
          rw [e1] at e; cases e
          obtain ⟨vs, sq, t⟩ := list_at rp ea (.inl hx)
          exact .lst sq (dp_all (fun d p v => toPy_ok rp n d p v) xs ps vs e1 t)
      · rename_i xs hx
        cases e1 : xs.mapM (toPy n h) with
        | none => rw [e1] at e; cases e
        | some ps =>
          rw [e1] at e; cases e
          obtain ⟨vs, sq, t⟩ := list_at rp ea (.inr hx)
          exact .lst sq (dp_all (fun d p v => toPy_ok rp n d p v) xs ps vs e1 t)
      · cases e
    | fn _ => cases e
    | ty _ => cases e
def eqB (x y : D) (h : HP) : Option Bool := match x, y with
  | .int i, .int j => some (decide (i = j))
  | .str a, .str b => some (decide (a = b))
  | .bl a, .bl b => some (decide (a = b))
  | .non, .non => some true
  | x, y => match toPy 60 h x, toPy 60 h y with
    | some p, some q => if SeqAt.shaped p = true ∧ SeqAt.shaped q = true then some (PyData.eqv p q) else none
    | _, _ => none
def eqG (neg : Bool) : D → D → HP → Option (D × HP) := fun x y h => (eqB x y h).map fun b => (.bl (if neg then !b else b), h)
theorem eqB_deep {x y : D} {v u : V} {b : Bool} (rp : Rep K mg r h H) (rx : RelD K mg r H x v) (ry : RelD K mg r H y u) (e : (match toPy 60 h x, toPy 60 h y with
    | some p, some q => if SeqAt.shaped p = true ∧ SeqAt.shaped q = true then some (PyData.eqv p q) else none
    | _, _ => none) = some b) : ∃ p q, Dp K H v p ∧ Dp K H u q ∧ SeqAt.shaped p = true ∧ SeqAt.shaped q = true ∧ PyData.eqv p q = b := by
  cases e1 : toPy 60 h x with
  | none => rw [e1] at e; cases e
  | some p =>
    cases e2 : toPy 60 h y with
    | none => rw [e1, e2] at e; cases e
    | some q =>
      rw [e1, e2] at e
      dsimp only at e
      by_cases hz : SeqAt.shaped p = true ∧ SeqAt.shaped q = true
      · rw [if_pos hz] at e
        exact ⟨p, q, toPy_ok rp 60 x p v e1 rx, toPy_ok rp 60 y q u e2 ry, hz.1, hz.2, Option.some.inj e⟩
      · rw [if_neg hz] at e; cases e
/-- how two values are compared: plainly, or as data -/
theorem eqB_ok {x y : D} {v u : V} {b : Bool} (rp : Rep K mg r h H) (rx : RelD K mg r H x v) (ry : RelD K mg r H y u) (e : eqB x y h = some b) :
    (scal v u = true ∧ decide (v = u) = b) ∨ ∃ p q, Dp K H v p ∧ Dp K H u q ∧ SeqAt.shaped p = true ∧ SeqAt.shaped q = true ∧ PyData.eqv p q = b := by
  unfold eqB at e
  split at e
  · cases rx; cases ry; cases e; exact .inl ⟨rfl, by simp⟩
  · cases rx; cases ry; cases e; exact .inl ⟨rfl, by simp⟩
  · cases rx; cases ry; cases e; exact .inl ⟨rfl, by simp⟩
  · cases rx; cases ry; cases e; exact .inl ⟨rfl, by simp⟩
  · exact .inr (eqB_deep rp rx ry e)
theorem op_eqG (hu : X.A.units + 64 < cLine) : OpR X (compareOp .Eq) (rV2 X.K X.mg (eqG false)) := by
  intro pins s σ H x y v u Q I rx ry ⟨r, a, b, h, rp, ra, rb, p⟩
  unfold eqG at p
  cases e : eqB a b h with
  | none => rw [e] at p; exact p.elim
  | some z =>
    rw [e] at p
    have q := p.here rp (.bl _)
    rcases eqB_ok rp ra rb e with ⟨z1, z2⟩ | ⟨d1, d2, z1, z2, z3, z4, z5⟩
    · exact op_eq pins s σ H _ _ v u Q I rx ry ⟨z1, by rw [z2]; exact q⟩
    · exact op_eqD hu pins s σ H _ _ v u Q I rx ry ⟨d1, d2, z1, z2, z3, z4, by rw [z5]; exact q⟩
theorem op_neG (hu : X.A.units + 64 < cLine) : OpR X (compareOp .NotEq) (rV2 X.K X.mg (eqG true)) := by
  intro pins s σ H x y v u Q I rx ry ⟨r, a, b, h, rp, ra, rb, p⟩
  unfold eqG at p
  cases e : eqB a b h with
  | none => rw [e] at p; exact p.elim
  | some z =>
    rw [e] at p
    have q := p.here rp (.bl _)
    rcases eqB_ok rp ra rb e with ⟨z1, z2⟩ | ⟨d1, d2, z1, z2, z3, z4, z5⟩
    · exact op_ne pins s σ H _ _ v u Q I rx ry ⟨z1, by rw [z2]; exact q⟩
    · exact op_neD hu pins s σ H _ _ v u Q I rx ry ⟨d1, d2, z1, z2, z3, z4, by rw [z5]; exact q⟩

/-! ### what is in -/
def inB (x y : D) (h : HP) : Option Bool := match y with
  | .str b => match x with
    | .str a => match a.cps.toList with
      | [c] => some (decide (c ∈ b.cps.toList))
      | _ => none
    | _ => none
  | .tup xs => match flatD x, flatDs xs with
    | some v, some vs => some (inV v vs)
    | _, _ => none
  | .ref i => match h[i]? with
    | some (.lst xs) => match flatD x, flatDs xs with
      | some v, some vs => some (inV v vs)
      | _, _ => none
    | some (.rdl xs) => match flatD x, flatDs xs with
      | some v, some vs => some (inV v vs)
      | _, _ => none
    | _ => none
  | _ => none
def inG (neg : Bool) : D → D → HP → Option (D × HP) := fun x y h => (inB x y h).map fun b => (.bl (if neg then !b else b), h)
theorem one_sign {a : Str} {c : Nat} (e : a.cps.toList = [c]) : a = ⟨#[c]⟩ := by
  obtain ⟨l⟩ := a
  have : l = #[c] := by
    apply Array.toList_inj.mp; exact e
  rw [this]
theorem seq_in {x : D} {xs : List D} {v : V} {vs ws : List V} {w : V} (rx : RelD K mg r H x v) (rl : RelDs K mg r H xs vs) (e1 : flatD x = some w) (e2 : flatDs xs = some ws) : flatV v = true ∧ vs.all flatV = true ∧ inV v vs = inV w ws := by
  obtain ⟨z1, z2⟩ := flat_rel rx e1
  obtain ⟨z3, z4⟩ := flats_rel rl e2
  subst z1 z3
  exact ⟨z2, z4, rfl⟩
theorem inB_ok {x y : D} {v u : V} {b : Bool} (rp : Rep K mg r h H) (rx : RelD K mg r H x v) (ry : RelD K mg r H y u) (e : inB x y h = some b) :
    (∃ (c : Nat) (z : Str), v = .str ⟨#[c]⟩ ∧ u = .str z ∧ decide (c ∈ z.cps.toList) = b) ∨ ∃ p xs, u = .ref p ∧ (SqL K H p xs ∨ SqT K H p xs) ∧ flatV v = true ∧ xs.all flatV = true ∧ inV v xs = b := by
  unfold inB at e
  cases ry with
  | str z =>
    cases rx with
    | str a =>
      dsimp only at e
      split at e
      · rename_i c hc
        cases e
        exact .inl ⟨c, z, by rw [one_sign hc], rfl, rfl⟩
      · cases e
    | _ => cases e
  | @tup xs ad vs sq rl =>
    dsimp only at e
    split at e
    · rename_i w ws e1 e2
      obtain ⟨z1, z2, z3⟩ := seq_in rx rl e1 e2
      cases e
      exact .inr ⟨ad, vs, rfl, .inr sq, z1, z2, z3⟩
    · cases e
  | @ref i ad ea =>
    dsimp only at e
    split at e
    · rename_i xs hx
      obtain ⟨vs, sq, rl⟩ := list_at rp ea (.inl hx)
      split at e
      · rename_i w ws e1 e2
        obtain ⟨z1, z2, z3⟩ := seq_in rx rl e1 e2
        cases e
        exact .inr ⟨ad, vs, rfl, .inl sq, z1, z2, z3⟩
      · cases e
    · rename_i xs hx
      obtain ⟨vs, sq, rl⟩ := list_at rp ea (.inr hx)
      split at e
      · rename_i w ws e1 e2
        obtain ⟨z1, z2, z3⟩ := seq_in rx rl e1 e2
        cases e
        exact .inr ⟨ad, vs, rfl, .inl sq, z1, z2, z3⟩
      · cases e
    · cases e
  | _ => cases e
theorem op_inG : OpR X (compareOp .In) (rV2 X.K X.mg (inG false)) := by
  intro pins s σ H x y v u Q I rx ry ⟨r, a, b, h, rp, ra, rb, p⟩
  unfold inG at p
  cases e : inB a b h with
  | none => rw [e] at p; exact p.elim
  | some z =>
    rw [e] at p
    have q := p.here rp (.bl _)
    rcases inB_ok rp ra rb e with ⟨c, y', z1, z2, z3⟩ | ⟨ad, xs, z1, z2, z3, z4, z5⟩
    · exact op_in_sign pins s σ H _ _ v u Q I rx ry ⟨c, y', z1, z2, by rw [z3]; exact q⟩
    · exact op_in_seq pins s σ H _ _ v u Q I rx ry ⟨ad, xs, z1, z2, z3, z4, by rw [z5]; exact q⟩
theorem op_ninG : OpR X (compareOp .NotIn) (rV2 X.K X.mg (inG true)) := by
  intro pins s σ H x y v u Q I rx ry ⟨r, a, b, h, rp, ra, rb, p⟩
  unfold inG at p
  cases e : inB a b h with
  | none => rw [e] at p; exact p.elim
  | some z =>
    rw [e] at p
    have q := p.here rp (.bl _)
    rcases inB_ok rp ra rb e with ⟨c, y', z1, z2, z3⟩ | ⟨ad, xs, z1, z2, z3, z4, z5⟩
    · exact op_notIn_sign pins s σ H _ _ v u Q I rx ry ⟨c, y', z1, z2, by rw [z3]; exact q⟩
    · exact op_notIn_seq pins s σ H _ _ v u Q I rx ry ⟨ad, xs, z1, z2, z3, z4, by rw [z5]; exact q⟩
/-- a <= b < c -/
def mChain (g g' : D → D → HP → Option (D × HP)) (a b c : ME) : ME := fun s h => (a s h).bind fun x h => (b s h).bind fun y h => ((ofO (g x y h)).bind kBl).bind fun k h => bif k then (c s h).bind fun z h => ofO (g' y z h) else .ok (.bl false) h

/-! ### places and slices -/
def ixG : D → D → HP → Option (D × HP) := fun x y h => match y with
  | .int i => match x with
    | .str z => if z.length ≤ 1000000 then (atI z.cps.toList i).map fun c => (.str ⟨#[c]⟩, h) else none
    | .tup xs => (atI xs i).map fun d => (d, h)
    | .ref j => match h[j]? with
      | some (.lst xs) => (atI xs i).map fun d => (d, h)
      | some (.rdl xs) => (atI xs i).map fun d => (d, h)
      | _ => none
    | _ => none
  | _ => none
theorem atI_rel {xs : List D} {vs : List V} {i : Int} {d : D} (rl : RelDs K mg r H xs vs) (e : atI xs i = some d) : ∃ v, atI vs i = some v ∧ RelD K mg r H d v := by
  unfold atI at e ⊢
  rw [← rl.length]
  cases q : ixN xs.length i with
  | none => rw [q] at e; cases e
  | some j =>
    rw [q] at e
    exact rl.get e
theorem ix_G : IxR X (rV2 X.K X.mg ixG) := by
  intro value slice pins s σ H x y v u Q I rx ry ⟨r, a, b, h, rp, ra, rb, p⟩ hs
  unfold ixG at p
  cases rb with
  | int i =>
    cases ra with
    | str z =>
      dsimp only at p
      by_cases hz : z.length ≤ 1000000
      · rw [if_pos hz] at p
        cases e : atI z.cps.toList i with
        | none => rw [e] at p; exact p.elim
        | some c =>
          rw [e] at p
          exact ix_str value slice pins s σ H _ _ v u Q I rx ry ⟨z, i, c, rfl, rfl, line_of hz, e, p.here rp (.str _)⟩ hs
      · rw [if_neg hz] at p; exact p.elim
    | @tup xs ad vs sq rl =>
      dsimp only at p
      cases e : atI xs i with
      | none => rw [e] at p; exact p.elim
      | some d =>
        rw [e] at p
        obtain ⟨w, e1, rw'⟩ := atI_rel rl e
        exact ix_tup value slice pins s σ H _ _ v u Q I rx ry ⟨ad, vs, i, w, rfl, rfl, sq, e1, p.here rp rw'⟩ hs
    | @ref j ad ea =>
      dsimp only at p
      split at p
      · rename_i xs hx
        obtain ⟨vs, sq, rl⟩ := list_at rp ea (.inl hx)
        cases e : atI xs i with
        | none => rw [e] at p; exact p.elim
        | some d =>
          rw [e] at p
          obtain ⟨w, e1, rw'⟩ := atI_rel rl e
          exact ix_list value slice pins s σ H _ _ v u Q I rx ry ⟨ad, vs, i, w, rfl, rfl, sq, e1, p.here rp rw'⟩ hs
      · rename_i xs hx
        obtain ⟨vs, sq, rl⟩ := list_at rp ea (.inr hx)
        cases e : atI xs i with
        | none => rw [e] at p; exact p.elim
        | some d =>
          rw [e] at p
          obtain ⟨w, e1, rw'⟩ := atI_rel rl e
          exact ix_list value slice pins s σ H _ _ v u Q I rx ry ⟨ad, vs, i, w, rfl, rfl, sq, e1, p.here rp rw'⟩ hs
      · exact p.elim
    | _ => exact p.elim
  | _ => exact p.elim
def slG : D → Option Int → Option Int → HP → Option (D × HP) := fun x lo hi h => match x with
  | .str z => if z.length ≤ 1000000 then some (.str (cutS z lo hi), h) else none
  | _ => none
theorem sl_G : SlR X (rVsl X.K X.mg slG) := by
  intro pins s σ H x v vl vu lo hi sl Q I rx hs pl pu ⟨r, d, h, rp, rl, p⟩
  unfold slG at p
  cases rl with
  | str z =>
    dsimp only at p
    by_cases hz : z.length ≤ 1000000
    · rw [if_pos hz] at p
      exact sl_str pins s σ H _ v vl vu lo hi sl Q I rx hs pl pu ⟨z, rfl, line_of hz, p.here rp (.str _)⟩
    · rw [if_neg hz] at p; exact p.elim
  | _ => exact p.elim
end
end PM
end
section
set_option Elab.async false
set_option linter.all false
set_option maxRecDepth 100000
set_option maxHeartbeats 1000000
namespace PM
open PySem PySem.Spec PyProof.Rows L2

section
variable {X : Cx} {K : PySem.W.Frag} {mg : Str → Option Value} {r : List Addr} {H : Hp} {h : HP} {W : WX} {a b c e o i elt : Expr} {es rest : List Expr} {ma mb mc : ME} {t : MA} {pos pos' apos cpos : Pos}

theorem qe_chain {op op' : CmpOp} {g g' : D → D → HP → Option (D × HP)} (ho : OpR X (compareOp op) (rV2 X.K X.mg g)) (ho' : OpR X (compareOp op') (rV2 X.K X.mg g')) (ha : QE X W a ma) (hb : QE X W b mb) (hc : QE X W c mc)
    (hm : lastMarks [op, op'] [b, c] = false := by with_unfolding_all rfl) : QE X W (.Compare a [op, op'] [b, c] pos) (mChain g g' ma mb mc) := (pe_chain ho ho' ha hb hc hm).imp fun σ H Q q => by
  obtain ⟨r, s, h, rp, rs, p⟩ := tM.bind (rr1 := rD) (m := ma) (k := fun s x h => (mb s h).bind fun y h => ((ofO (g x y h)).bind kBl).bind fun k h => bif k then (mc s h).bind fun z h => ofO (g' y z h) else R.ok (D.bl false) h) q
  refine ⟨r, s, h, rp, rs, p.imp fun x H1 ⟨r1, s1, dx, h1, rp1, rs1, rl1, p1⟩ => ?_⟩
  refine ⟨r1, s1, h1, rp1, rs1, (Post.bind (rr1 := rD) p1).imp fun y H2 ⟨r2, dy, h2, e2, k2, rp2, rl2, p2⟩ => ?_⟩
  refine ⟨r2, dx, dy, h2, rp2, rl1.mono e2 k2, rl2, ?_⟩
  have p3 : Post X.K X.mg rD W r2 σ H2 Q ((ofO (g dx dy h2)).bind fun d h => (kBl d h).bind fun k h => bif k then (mc s1 h).bind fun z h => ofO (g' dy z h) else R.ok (D.bl false) h) := by rw [← bind_bind]; exact p2
  refine ((Post.bind (rr1 := rD) p3).imp fun z H3 ⟨r3, dz, h3, e3, k3, rp3, rl3, p4⟩ => ?_).ofO
  obtain ⟨bb, e4, p5⟩ := bool_of rp3 rl3 p4
  refine ⟨bb, e4, ?_⟩
  cases bb with
  | true =>
    refine ⟨r3, s1, h3, rp3, (rs1.mono e2 k2).mono e3 k3, (Post.bind (rr1 := rD) p5).imp fun w H4 ⟨r4, dw, h4, e5, k5, rp4, rl4, p6⟩ => ?_⟩
    exact ⟨r4, dy, dw, h4, rp4, (rl2.mono e3 k3).mono e5 k5, rl4, p6.ofO⟩
  | false => exact Post.here (rr := rD) p5 rp3 (.bl false)

/-! ### calls of built-ins -/
def lenG : List D → HP → Option (D × HP) := fun ds h => match ds with
  | [.str x] => if x.length ≤ 1000000 then some (.int x.length, h) else none
  | [.tup xs] => some (.int xs.length, h)
  | [.ref i] => match h[i]? with
    | some (.lst xs) => some (.int xs.length, h)
    | some (.rdl xs) => some (.int xs.length, h)
    | _ => none
  | _ => none
theorem one_of {ds : List D} {vs : List V} {d : D} (rl : RelDs K mg r H [d] vs) : ∃ v, vs = [v] ∧ RelD K mg r H d v := by
  cases rl with
  | cons a b => cases b; exact ⟨_, rfl, a⟩
theorem two_of {vs : List V} {d d' : D} (rl : RelDs K mg r H [d, d'] vs) : ∃ v v', vs = [v, v'] ∧ RelD K mg r H d v ∧ RelD K mg r H d' v' := by
  cases rl with
  | cons a b =>
    cases b with
    | cons b c => cases c; exact ⟨_, _, rfl, a, b⟩
theorem call_lenG : CallR X (.builtin "len") (rVs X.K X.mg lenG) := by
  intro pins s σ H xs us Q I rv ⟨r, ds, h, rp, rl, p⟩
  unfold lenG at p
  split at p
  · rename_i x
    obtain ⟨v, rfl, rd⟩ := one_of (ds := []) rl
    cases rd
    by_cases hz : x.length ≤ 1000000
    · rw [if_pos hz] at p
      exact call_len pins s σ H _ us Q I rv ⟨_, _, rfl, ⟨line_of hz, rfl⟩, p.here rp (.int _)⟩
    · rw [if_neg hz] at p; exact p.elim
  · rename_i xs
    obtain ⟨v, rfl, rd⟩ := one_of (ds := []) rl
    cases rd with
    | tup sq rls => exact call_len pins s σ H _ us Q I rv ⟨_, _, rfl, .inr ⟨_, sq, rls.length⟩, p.here rp (.int _)⟩
  · rename_i i
    obtain ⟨v, rfl, rd⟩ := one_of (ds := []) rl
    cases rd with
    | ref ea =>
      split at p
      · rename_i xs hx
        obtain ⟨vs, sq, rls⟩ := list_at rp ea (.inl hx)
        exact call_len pins s σ H _ us Q I rv ⟨_, _, rfl, .inl ⟨_, sq, rls.length⟩, p.here rp (.int _)⟩
      · rename_i xs hx
        obtain ⟨vs, sq, rls⟩ := list_at rp ea (.inr hx)
        exact call_len pins s σ H _ us Q I rv ⟨_, _, rfl, .inl ⟨_, sq, rls.length⟩, p.here rp (.int _)⟩
      · exact p.elim
  · exact p.elim
def toIntG : List D → HP → Option (D × HP) := fun ds h => match ds with
  | [.int i] => some (.int i, h)
  | [.bl k] => some (.int (if k then 1 else 0), h)
  | [.str a] => if a.length ≤ 640 then (PySem.intText? a).map fun n => (.int n, h) else none
  | _ => none
theorem call_toIntG : CallR X (.type "int") (rVs X.K X.mg toIntG) := by
  intro pins s σ H xs us Q I rv ⟨r, ds, h, rp, rl, p⟩
  unfold toIntG at p
  split at p
  · obtain ⟨v, rfl, rd⟩ := one_of (ds := []) rl
    cases rd
    exact call_int1 pins s σ H _ us Q I rv (.inl ⟨_, rfl, p.here rp (.int _)⟩)
  · obtain ⟨v, rfl, rd⟩ := one_of (ds := []) rl
    cases rd
    exact call_int1 pins s σ H _ us Q I rv (.inr ⟨_, rfl, p.here rp (.int _)⟩)
  · rename_i a
    obtain ⟨v, rfl, rd⟩ := one_of (ds := []) rl
    cases rd
    by_cases hz : a.length ≤ 640
    · rw [if_pos hz] at p
      cases z : PySem.intText? a with
      | none => rw [z] at p; exact p.elim
      | some n =>
        rw [z] at p
        exact call_int_str pins s σ H _ us Q I rv ⟨_, _, rfl, z, hz, p.here rp (.int _)⟩
    · rw [if_neg hz] at p; exact p.elim
  · exact p.elim
def min2G : List D → HP → Option (D × HP) := fun ds h => match ds with
  | [.int i, .int j] => some (.int (if j < i then j else i), h)
  | _ => none
theorem call_min2G (hc : X.calm = true) : CallR X (.builtin "min") (rVs X.K X.mg min2G) := by
  intro pins s σ H xs us Q I rv ⟨r, ds, h, rp, rl, p⟩
  unfold min2G at p
  split at p
  · obtain ⟨v, v', rfl, rd, rd'⟩ := two_of rl
    cases rd
    cases rd'
    exact call_min2 hc pins s σ H _ us Q I rv ⟨_, _, rfl, p.here rp (.int _)⟩
  · exact p.elim
def max2G : List D → HP → Option (D × HP) := fun ds h => match ds with
  | [.int i, .int j] => some (.int (if j > i then j else i), h)
  | _ => none
theorem call_max2G (hc : X.calm = true) : CallR X (.builtin "max") (rVs X.K X.mg max2G) := by
  intro pins s σ H xs us Q I rv ⟨r, ds, h, rp, rl, p⟩
  unfold max2G at p
  split at p
  · obtain ⟨v, v', rfl, rd, rd'⟩ := two_of rl
    cases rd
    cases rd'
    exact call_max2 hc pins s σ H _ us Q I rv ⟨_, _, rfl, p.here rp (.int _)⟩
  · exact p.elim
def toTupG : List D → HP → Option (D × HP) := fun ds h => match ds with
  | [.tup xs] => some (.tup xs, h)
  | [.ref i] => match h[i]? with
    | some (.lst xs) => some (.tup xs, h)
    | some (.rdl xs) => some (.tup xs, h)
    | _ => none
  | _ => none
theorem call_toTupG : CallR X (.type "tuple") (rVs X.K X.mg toTupG) := by
  intro pins s σ H xs us Q I rv ⟨r, ds, h, rp, rl, p⟩
  unfold toTupG at p
  split at p
  · rename_i xs
    obtain ⟨v, rfl, rd⟩ := one_of (ds := []) rl
    cases rd with
    | tup sq rls => exact call_tuple_of pins s σ H _ us Q I rv ⟨_, _, rfl, .inr ⟨sq, p.here rp (.tup sq rls)⟩⟩
  · rename_i i
    obtain ⟨v, rfl, rd⟩ := one_of (ds := []) rl
    cases rd with
    | ref ea =>
      split at p
      · rename_i xs hx
        obtain ⟨vs, sq, rls⟩ := list_at rp ea (.inl hx)
        exact call_tuple_of pins s σ H _ us Q I rv ⟨_, _, rfl, .inl ⟨sq, fun l hl => p.tup rp rls hl⟩⟩
      · rename_i xs hx
        obtain ⟨vs, sq, rls⟩ := list_at rp ea (.inr hx)
        exact call_tuple_of pins s σ H _ us Q I rv ⟨_, _, rfl, .inl ⟨sq, fun l hl => p.tup rp rls hl⟩⟩
      · exact p.elim
  · exact p.elim
def toOrdG : List D → HP → Option (D × HP) := fun ds h => match ds with
  | [.str x] => if x.length = 1 then some (.int (x.cps.getD 0 0 : Nat), h) else none
  | _ => none
theorem call_toOrdG : CallR X (.builtin "ord") (rVs X.K X.mg toOrdG) := by
  intro pins s σ H xs us Q I rv ⟨r, ds, h, rp, rl, p⟩
  unfold toOrdG at p
  split at p
  · rename_i x
    obtain ⟨v, rfl, rd⟩ := one_of (ds := []) rl
    cases rd
    by_cases hz : x.length = 1
    · rw [if_pos hz] at p
      exact call_ord pins s σ H _ us Q I rv ⟨_, rfl, hz, p.here rp (.int _)⟩
    · rw [if_neg hz] at p; exact p.elim
  · exact p.elim
def isiG : List D → HP → Option (D × HP) := fun ds h => match ds with
  | [.ref i, .ty n] => match h[i]? with
    | some (.lst _) => (kitB "list" n).map fun b => (.bl b, h)
    | some (.dic _) => (kitB "dict" n).map fun b => (.bl b, h)
    | _ => none
  | [.int _, .ty n] => (kitB "int" n).map fun b => (.bl b, h)
  | [.str _, .ty n] => (kitB "str" n).map fun b => (.bl b, h)
  | [.bl _, .ty n] => (kitB "bool" n).map fun b => (.bl b, h)
  | [.non, .ty n] => (kitB "NoneType" n).map fun b => (.bl b, h)
  | _ => none
theorem isi_at {t n : String} {x : V} {us : List Value} {s : Shared} {pins : List (Addr × Obj)} {σ : L2.St} {H : Hp} {Q : VK} (I : Inv X pins σ H s) (rv : Vals [x, .ty n] us) (ty : TyX X.K H x (.type t)) (rp : Rep X.K X.mg r h H)
    (p : PostV X.K X.mg r H Q ((kitB t n).map fun b => (.bl b, h))) : wpAny (model X.prog X.w) X.A (call (.builtin "isinstance") us) (EP X pins σ Q) X.xe s := by
  cases z : kitB t n with
  | none => rw [z] at p; exact p.elim
  | some bb =>
    rw [z] at p
    exact call_isi pins s σ H _ us Q I rv ⟨_, _, _, _, bb, rfl, .ty n, ty, kit_ty z, p.here rp (.bl _)⟩
theorem call_isiG : CallR X (.builtin "isinstance") (rVs X.K X.mg isiG) := by
  intro pins s σ H xs us Q I rv ⟨r, ds, h, rp, rl, p⟩
  unfold isiG at p
  split at p
  · obtain ⟨v, v', rfl, rd, rd'⟩ := two_of rl
    cases rd'
    cases rd with
    | @ref i ad ea =>
      split at p
      · rename_i xs hx
        obtain ⟨vs, q, _⟩ := rp.obs _ _ ad hx ea
        exact isi_at I rv (.base (.lst q)) rp p
      · rename_i xs hx
        obtain ⟨vs, q, _⟩ := rp.obs _ _ ad hx ea
        exact isi_at I rv (.base (.dK q)) rp p
      · exact p.elim
  · obtain ⟨v, v', rfl, rd, rd'⟩ := two_of rl
    cases rd'; cases rd
    exact isi_at I rv (.base (.int _)) rp p
  · obtain ⟨v, v', rfl, rd, rd'⟩ := two_of rl
    cases rd'; cases rd
    exact isi_at I rv (.base (.str _)) rp p
  · obtain ⟨v, v', rfl, rd, rd'⟩ := two_of rl
    cases rd'; cases rd
    exact isi_at I rv (.base (.bl _)) rp p
  · obtain ⟨v, v', rfl, rd, rd'⟩ := two_of rl
    cases rd'; cases rd
    exact isi_at I rv (.base .non) rp p
  · exact p.elim
def boolsD : List D → Option (List Bool)
  | [] => some []
  | .bl b :: ds => (boolsD ds).map (b :: ·)
  | _ :: _ => none
theorem boolsD_rel : ∀ {ds : List D} {vs : List V} {bs : List Bool}, RelDs K mg r H ds vs → boolsD ds = some bs → vs = bs.map V.bl
  | _, _, _, .nil, e => by cases e; rfl
  | _, _, bs, .cons (x := d) a t, e => by
    cases a with
    | bl b =>
      unfold boolsD at e
      cases z : boolsD _ with
      | none => rw [z] at e; cases e
      | some bs' => rw [z] at e; cases e; rw [boolsD_rel t z]; rfl
    | _ => cases e
def allG : List D → HP → Option (D × HP) := fun ds h => match ds with
  | [.ref i] => match h[i]? with
    | some (.lst xs) => (boolsD xs).map fun bs => (.bl (bs.all id), h)
    | _ => none
  | _ => none
theorem call_allG (hc : X.calm = true) : CallR X (.builtin "all") (rVs X.K X.mg allG) := by
  intro pins s σ H xs us Q I rv ⟨r, ds, h, rp, rl, p⟩
  unfold allG at p
  split at p
  · obtain ⟨v, rfl, rd⟩ := one_of (ds := []) rl
    cases rd with
    | @ref i ad ea =>
      split at p
      · rename_i xs hx
        obtain ⟨vs, q, rls⟩ := rp.obs _ _ ad hx ea
        cases z : boolsD xs with
        | none => rw [z] at p; exact p.elim
        | some bs =>
          rw [z] at p
          have e := boolsD_rel rls z
          subst e
          exact cr_all hc pins s σ H _ us Q I rv ⟨ad, bs, rfl, SqL.of q, p.here rp (.bl _)⟩
      · exact p.elim
  · exact p.elim

/-! ### methods of built-ins -/
def tyB (T : String) (d : D) (h : HP) : Bool := match d with
  | .str _ => T == "str"
  | .ref i => match h[i]? with
    | some (.lst _) => T == "list"
    | some (.rdl _) => T == "list"
    | some (.dic _) => T == "dict"
    | _ => false
  | _ => false
def mMeth (T : String) (g : D → List D → HP → Option (D × HP)) (a : ME) (t : MA) : ME := fun s h => (a s h).bind fun x h => bif tyB T x h then (t s h).bind fun xs h => ofO (g x xs h) else .bad
theorem tyB_ok {T : String} {d : D} {v : V} (rp : Rep K mg r h H) (rl : RelD K mg r H d v) (e : tyB T d h = true) : tyV K T v H := by
  unfold tyB at e
  cases rl with
  | str x => exact beq_iff_eq.mp e
  | @ref i ad ea =>
    dsimp only at e
    split at e
    · rename_i xs hx
      obtain ⟨vs, sq, _⟩ := list_at rp ea (.inl hx)
      exact .inl ⟨beq_iff_eq.mp e, vs, sq⟩
    · rename_i xs hx
      obtain ⟨vs, sq, _⟩ := list_at rp ea (.inr hx)
      exact .inl ⟨beq_iff_eq.mp e, vs, sq⟩
    · rename_i xs hx
      obtain ⟨vs, q, _⟩ := rp.obs _ _ ad hx ea
      exact .inr (.inr (.inl ⟨beq_iff_eq.mp e, .inl ⟨vs, q⟩⟩))
    · cases e
  | _ => cases e
theorem qe_bm {T id : String} {name : Str} {g : D → List D → HP → Option (D × HP)} (pa : PlainAttrs T) (slot : Slot T name id) (hty : typeOf (.builtin id) = pure (.type "method_descriptor")) (hm : MtR X id (rVm X.K X.mg g)) (ho : QE X W o ma) (ha : QA X W (e :: es) t)
    (hbase : attributeBase o name X.env (eval o X.env) = eval o X.env := by rfl)
    (hfew : ((backTo cpos (starEach (e :: es) X.env)).all (fun x => !x.1) && (backToKw cpos (keywordEach [] X.env)).all (fun x => x.1.isSome)
      && decide ((e :: es).length + ([] : List Keyword).length + (if ([] : List Keyword).isEmpty then 0 else 1) < 30)) = true := by rfl)
    (hline : (apos.endLine == cpos.line) = true := by rfl) (hs : starEach (e :: es) X.env = (false, eval e X.env) :: starEach es X.env := by rfl) (hplain : (backTo cpos (starEach es X.env)).any (·.1) = false := by rfl) :
    QE X W (.Call (.Attribute o name apos) (e :: es) [] cpos) (mMeth T g ma t) := (pe_bm pa slot hty hm ho ha hbase hfew hline hs hplain).imp fun σ H Q q => by
  obtain ⟨r, s, h, rp, rs, p⟩ := tM.bind (rr1 := rD) (m := ma) (k := fun s x h => bif tyB T x h then (t s h).bind fun xs h => ofO (g x xs h) else R.bad) q
  refine ⟨r, s, h, rp, rs, p.imp fun x H1 ⟨r1, s1, d, h1, rp1, rs1, rl1, p1⟩ => ?_⟩
  cases z : tyB T d h1 with
  | false => rw [z] at p1; exact p1.elim
  | true =>
    rw [z] at p1
    refine ⟨tyB_ok rp1 rl1 z, r1, s1, h1, rp1, rs1, (Post.bind (rr1 := rDs) p1).imp fun y H2 ⟨r2, ds, h2, e2, k2, rp2, rl2, p2⟩ => ?_⟩
    exact ⟨r2, d, ds, h2, rp2, rl1.mono e2 k2, rl2, p2.ofO⟩
def appendG : D → List D → HP → Option (D × HP) := fun x ds h => match x, ds with
  | .ref i, [d] => match h[i]? with
    | some (.lst xs) => if xs.length < 1000000 then some (.non, h.set i (.lst (xs ++ [d]))) else none
    | _ => none
  | _, _ => none
theorem mt_appendG : MtR X "list.append" (rVm X.K X.mg appendG) := by
  intro pins s σ H x xs v us Q I rx rv ⟨r, d, ds, h, rp, rl, rls, p⟩
  unfold appendG at p
  split at p
  · rename_i i d'
    obtain ⟨w, rfl, rd⟩ := one_of (ds := []) rls
    cases rl with
    | @ref i ad ea =>
      split at p
      · rename_i ys hy
        obtain ⟨vs, q, rly⟩ := rp.obs _ _ ad hy ea
        by_cases hz : ys.length < 1000000
        · rw [if_pos hz] at p
          have st := rp.set (u := .lst (vs ++ [w])) (o' := .lst (ys ++ [d'])) hy rfl rfl ea fun k => ⟨_, upd_same, (rly.mono (Ext.refl _) k).append (.cons (rd.mono (Ext.refl _) k) .nil)⟩
          exact mt_append pins s σ H _ _ v us Q I rx rv ⟨ad, vs, w, rfl, rfl, q, line_lt (by rw [← rly.length]; exact hz), p r .non _ (Ext.refl _) st.2 st.1 .non⟩
        · rw [if_neg hz] at p; exact p.elim
      · exact p.elim
  · exact p.elim
def extendG : D → List D → HP → Option (D × HP) := fun x ds h => match x, ds with
  | .ref i, [.ref j] => match h[i]?, h[j]? with
    | some (.lst xs), some (.lst ys) => if xs.length + ys.length ≤ 1000000 then some (.non, h.set i (.lst (xs ++ ys))) else none
    | _, _ => none
  | _, _ => none
theorem mt_extendG : MtR X "list.extend" (rVm X.K X.mg extendG) := by
  intro pins s σ H x xs v us Q I rx rv ⟨r, d, ds, h, rp, rl, rls, p⟩
  unfold extendG at p
  split at p
  · rename_i i j
    obtain ⟨w, rfl, rd⟩ := one_of (ds := []) rls
    cases rl with
    | @ref i ad ea =>
      cases rd with
      | @ref j bd eb =>
        split at p
        · rename_i ys zs hy hz'
          obtain ⟨vs, q, rly⟩ := rp.obs _ _ ad hy ea
          obtain ⟨ws, q2, rlz⟩ := rp.obs _ _ bd hz' eb
          by_cases hz : ys.length + zs.length ≤ 1000000
          · rw [if_pos hz] at p
            have st := rp.set (u := .lst (vs ++ ws)) (o' := .lst (ys ++ zs)) hy rfl rfl ea fun k => ⟨_, upd_same, (rly.mono (Ext.refl _) k).append (rlz.mono (Ext.refl _) k)⟩
            exact mt_extend pins s σ H _ _ v us Q I rx rv ⟨ad, bd, vs, ws, rfl, rfl, q, q2, line_of (by rw [← rly.length, ← rlz.length]; exact hz), p r .non _ (Ext.refl _) st.2 st.1 .non⟩
          · rw [if_neg hz] at p; exact p.elim
        · exact p.elim
  · exact p.elim
def splitG : D → List D → HP → Option (D × HP) := fun x ds h => match x, ds with
  | .str a, [.str b] => if (b.length == 0) = false ∧ a.length ≤ 1000000 then some (.ref h.length, h ++ [.lst ((Txt.split a b).map D.str)]) else none
  | _, _ => none
theorem mt_splitG : MtR X "str.split" (rVm X.K X.mg splitG) := by
  intro pins s σ H x xs v us Q I rx rv ⟨r, d, ds, h, rp, rl, rls, p⟩
  unfold splitG at p
  split at p
  · rename_i a b
    obtain ⟨w, rfl, rd⟩ := one_of (ds := []) rls
    cases rl
    cases rd
    by_cases hz : (b.length == 0) = false ∧ a.length ≤ 1000000
    · rw [if_pos hz] at p
      exact mt_split pins s σ H _ _ v us Q I rx rv ⟨a, b, rfl, rfl, hz.1, by have := hz.2; rw [sizeLine_eq]; omega, fun p' hp => p.lst rp (RelDs.strs _) hp⟩
    · rw [if_neg hz] at p; exact p.elim
  · exact p.elim
/-- a text's method of texts, whose answer is a plain value -/
def strG1 (g : Str → Str → D) : D → List D → HP → Option (D × HP) := fun x ds h => match x, ds with
  | .str a, [.str b] => some (g a b, h)
  | _, _ => none
theorem mt_strI {id : String} {g : Str → Str → Int} (m : MtR X id (fun x xs H Q => ∃ a b, x = .str a ∧ xs = [.str b] ∧ Q (.int (g a b)) H)) : MtR X id (rVm X.K X.mg (strG1 fun a b => .int (g a b))) := by
  intro pins s σ H x xs v us Q I rx rv ⟨r, d, ds, h, rp, rl, rls, p⟩
  unfold strG1 at p
  split at p
  · rename_i a b
    obtain ⟨w, rfl, rd⟩ := one_of (ds := []) rls
    cases rl
    cases rd
    exact m pins s σ H _ _ v us Q I rx rv ⟨a, b, rfl, rfl, p.here rp (.int _)⟩
  · exact p.elim
theorem mt_strB {id : String} {g : Str → Str → Bool} (m : MtR X id (fun x xs H Q => ∃ a b, x = .str a ∧ xs = [.str b] ∧ Q (.bl (g a b)) H)) : MtR X id (rVm X.K X.mg (strG1 fun a b => .bl (g a b))) := by
  intro pins s σ H x xs v us Q I rx rv ⟨r, d, ds, h, rp, rl, rls, p⟩
  unfold strG1 at p
  split at p
  · rename_i a b
    obtain ⟨w, rfl, rd⟩ := one_of (ds := []) rls
    cases rl
    cases rd
    exact m pins s σ H _ _ v us Q I rx rv ⟨a, b, rfl, rfl, p.here rp (.bl _)⟩
  · exact p.elim
def find4G : D → List D → HP → Option (D × HP) := fun x ds h => match x, ds with
  | .str a, [.str b, .int i, .int j] => some (.int (Txt.findIn a b i j), h)
  | _, _ => none
theorem mt_find4G : MtR X "str.find" (rVm X.K X.mg find4G) := by
  intro pins s σ H x xs v us Q I rx rv ⟨r, d, ds, h, rp, rl, rls, p⟩
  unfold find4G at p
  split at p
  · rename_i a b i j
    cases rl
    cases rls with
    | cons r1 rls =>
      cases rls with
      | cons r2 rls =>
        cases rls with
        | cons r3 rls =>
          cases rls
          cases r1; cases r2; cases r3
          exact mt_find4 pins s σ H _ _ v us Q I rx rv ⟨a, b, i, j, rfl, rfl, p.here rp (.int _)⟩
  · exact p.elim
end
end PM
end
section
set_option Elab.async false
set_option linter.all false
set_option maxRecDepth 100000
set_option maxHeartbeats 1000000
namespace PM
open PySem PySem.Spec PyProof.Rows L2

section
variable {X : Cx} {K : PySem.W.Frag} {mg : Str → Option Value} {r : List Addr} {H : Hp} {h : HP} {W : WX} {a b c e o i elt value : Expr} {es rest : List Expr} {ma mb mc : ME} {t : MA} {pos pos' apos cpos : Pos}

/-! ### dicts -/
def keyD : D → Option Key
  | .int i => some (.inl i)
  | .str x => some (.inr x)
  | _ => none
theorem key_rel {d : D} {v : V} {k : Key} (rl : RelD K mg r H d v) (e : keyD d = some k) : v = kV k := by
  cases rl <;> first | (cases e; rfl) | cases e
def getK (kvs : List (Key × D)) (k : Key) : Option D := (kvs.find? fun kv => decide (kv.1 = k)).map (·.2)
def setK (kvs : List (Key × D)) (k : Key) (d : D) : List (Key × D) :=
  if (kvs.any fun kv => decide (kv.1 = k)) = true then kvs.map (fun kv => if kv.1 = k then (kv.1, d) else kv) else kvs ++ [(k, d)]
theorem getK_rel : ∀ {kvs : List (Key × D)} {vs : List (Key × V)} {k : Key} {d : D}, RelP K mg r H kvs vs → getK kvs k = some d → ∃ v, valV vs k = some v ∧ RelD K mg r H d v
  | _, _, _, _, .nil, e => by cases e
  | (k1, d1) :: kvs, (k2, v2) :: vs, k, d, .cons q t, e => by
    obtain ⟨q1, q2⟩ := q
    have q1 : k1 = k2 := q1
    subst q1
    by_cases hk : k1 = k
    · have e1 : getK ((k1, d1) :: kvs) k = some d1 := by simp [getK, List.find?_cons, hk]
      rw [e1] at e; cases e
      exact ⟨v2, valV_pos hk, q2⟩
    · have e1 : getK ((k1, d1) :: kvs) k = getK kvs k := by simp [getK, List.find?_cons, hk]
      rw [e1] at e
      obtain ⟨v, z1, z2⟩ := getK_rel t e
      exact ⟨v, by rw [valV_neg hk]; exact z1, z2⟩
theorem any_rel : ∀ {kvs : List (Key × D)} {vs : List (Key × V)} {k : Key}, RelP K mg r H kvs vs → (kvs.any fun kv => decide (kv.1 = k)) = vs.any fun kv => decide (kv.1 = k)
  | _, _, _, .nil => rfl
  | _, _, k, .cons q t => by
    rw [List.any_cons, List.any_cons, any_rel t, q.1]
theorem map_rel {k : Key} {d : D} {v : V} (rd : RelD K mg r H d v) : ∀ {kvs : List (Key × D)} {vs : List (Key × V)}, RelP K mg r H kvs vs → RelP K mg r H (kvs.map fun kv => if kv.1 = k then (kv.1, d) else kv) (vs.map fun kv => if kv.1 = k then (kv.1, v) else kv)
  | _, _, .nil => .nil
  | kv :: kvs, vv :: vs, .cons q t => by
    rw [List.map_cons, List.map_cons]
    refine .cons ?_ (map_rel rd t)
    by_cases hk : kv.1 = k
    · rw [if_pos hk, if_pos (q.1 ▸ hk)]; exact ⟨q.1, rd⟩
    · rw [if_neg hk, if_neg (q.1 ▸ hk)]; exact q
theorem snoc_rel {k : Key} {d : D} {v : V} (rd : RelD K mg r H d v) : ∀ {kvs : List (Key × D)} {vs : List (Key × V)}, RelP K mg r H kvs vs → RelP K mg r H (kvs ++ [(k, d)]) (vs ++ [(k, v)])
  | _, _, .nil => .cons ⟨rfl, rd⟩ .nil
  | _, _, .cons q t => .cons q (snoc_rel rd t)
theorem setK_rel {k : Key} {d : D} {v : V} (rd : RelD K mg r H d v) {kvs : List (Key × D)} {vs : List (Key × V)} (q : RelP K mg r H kvs vs) : RelP K mg r H (setK kvs k d) (putK vs k v) := by
  unfold setK putK
  rw [any_rel q]
  by_cases hz : (vs.any fun kv => decide (kv.1 = k)) = true
  · rw [if_pos hz, if_pos hz]; exact map_rel rd q
  · rw [if_neg hz, if_neg hz]; exact snoc_rel rd q
theorem len_rel : ∀ {kvs : List (Key × D)} {vs : List (Key × V)}, RelP K mg r H kvs vs → kvs.length = vs.length
  | _, _, .nil => rfl
  | _, _, .cons _ t => by rw [List.length_cons, List.length_cons, len_rel t]
/-- x[y]: of a text, a tuple, a list, a dict -/
def itemG : D → D → HP → Option (D × HP) := fun x y h => match x with
  | .ref j => match h[j]? with
    | some (.dic kvs) => (keyD y).bind fun k => (getK kvs k).map fun d => (d, h)
    | _ => ixG x y h
  | _ => ixG x y h
theorem qe_sub (hu : X.A.units + 1 < cLine) (ha : QE X W a ma) (hb : QE X W b mb) (hs : PlainIx b := by exact fun _ _ => rfl) (hs2 : NoSl b := by exact fun _ _ => rfl) : QE X W (.Subscript a b pos) (m2 itemG ma mb) := by
  have h1 := pe_ix (pos := pos) ix_G ha hb hs
  have h2 := pe_dget (pos := pos) hu ha hb hs2
  refine ⟨fun pins s σ H Q I q => ?_⟩
  obtain ⟨r0, s0, h0, rp0, rs0, p0⟩ := q
  -- is it a dict?
  by_cases hd : ∃ x h1 y h2 j kvs, ma s0 h0 = .ok x h1 ∧ mb s0 h1 = .ok y h2 ∧ x = .ref j ∧ h2[j]? = some (.dic kvs)
  · refine h2.run pins s σ H Q I ?_
    obtain ⟨x, h1, y, h2, j, kvs, e1, e2, rfl, e4⟩ := hd
    refine ⟨r0, s0, h0, rp0, rs0, ?_⟩
    have p1 : Post X.K X.mg rD W r0 σ H Q ((mb s0 h1).bind fun y h => ofO (itemG (.ref j) y h)) := by
      have z : m2 itemG ma mb s0 h0 = (mb s0 h1).bind fun y h => ofO (itemG (.ref j) y h) := by unfold m2; rw [e1]; rfl
      rw [← z]; exact p0
    rw [e1]
    intro r1 v H1 x1 k1 rp1 rl1
    refine ⟨r1, s0, h1, rp1, rs0.mono x1 k1, ?_⟩
    rw [e2] at p1 ⊢
    have p2 : Post X.K X.mg rD W r0 σ H Q (ofO (itemG (.ref j) y h2)) := p1
    have p3 := p2.ofO
    unfold itemG at p3
    dsimp only at p3
    rw [e4] at p3
    dsimp only at p3
    intro r2 u H2 x2 k2 rp2 rl2
    cases z : keyD y with
    | none => rw [z] at p3; exact p3.elim
    | some k =>
      rw [z] at p3
      have p3 : PostV X.K X.mg r0 H Q ((getK kvs k).map fun d => (d, h2)) := p3
      cases z2 : getK kvs k with
      | none => rw [z2] at p3; exact p3.elim
      | some d =>
        rw [z2] at p3
        cases rl1 with
        | ref ea =>
          obtain ⟨vs, q, rlv⟩ := rp2.obs _ _ _ e4 (x2.get ea)
          obtain ⟨v', z3, z4⟩ := getK_rel rlv z2
          refine ⟨_, v', rfl, ?_, p3 r2 v' H2 (x1.trans x2) (k1.trans k2) rp2 z4⟩
          rw [key_rel rl2 z, ← z3]
          exact DGet.k q
  · refine h1.run pins s σ H Q I (two ⟨r0, s0, h0, rp0, rs0, ?_⟩)
    have z : m2 itemG ma mb s0 h0 = m2 ixG ma mb s0 h0 := by
      unfold m2
      cases e1 : ma s0 h0 with
      | ok x h1 =>
        show ((mb s0 h1).bind fun y h => ofO (itemG x y h)) = (mb s0 h1).bind fun y h => ofO (ixG x y h)
        cases e2 : mb s0 h1 with
        | ok y h2 =>
          show ofO (itemG x y h2) = ofO (ixG x y h2)
          congr 1
          unfold itemG
          cases x with
          | ref j =>
            dsimp only
            split
            · rename_i kvs e4
              exact absurd ⟨_, h1, y, h2, j, kvs, e1, e2, rfl, e4⟩ hd
            · rfl
          | _ => rfl
        | exc c fs h2 => rfl
        | bad => rfl
      | exc c fs h1 => rfl
      | bad => rfl
    rw [← z]; exact p0
/-- x[y] = value, x a dict or a list: the value first -/
def putG : D → D → D → HP → Option HP := fun x y v h => match x with
  | .ref j => match h[j]? with
    | some (.dic kvs) => (keyD y).bind fun k => if kvs.length < 1000000 then some (h.set j (.dic (setK kvs k v))) else none
    | _ => none
  | _ => none
def mPutD (mv mo mi : ME) : MS := fun s h => (mv s h).toS s fun v h => (mo s h).toS s fun x h => (mi s h).toS s fun y h => match putG x y v h with
  | some h => .nx s h
  | none => .bad
theorem qs_putD {mv mo mi : ME} (hu : X.A.units + 1 < cLine) (hv : QE X W value mv) (ho : QE X W o mo) (hi : QE X W i mi) (hs : swapsWith value (some (.Subscript o i pos')) pos.line X.env = pure false := by rfl) : QS X W (.Assign [.Subscript o i pos'] value pos) (mPutD mv mo mi) :=
  (ps_dput hu ho hi hv hs).imp fun D0 σ H q => by
    obtain ⟨r, s, h, rp, rs, p⟩ := q
    unfold mPutD at p
    refine ⟨r, s, h, rp, rs, (PostS.ofE (rr := rD) rs p).imp fun v H1 ⟨r1, dv, h1, e1, k1, rp1, rl1, p1⟩ => ?_⟩
    have rs1 := rs.mono e1 k1
    refine ⟨r1, s, h1, rp1, rs1, (PostS.ofE (rr := rD) rs1 p1).imp fun x H2 ⟨r2, dx, h2, e2, k2, rp2, rl2, p2⟩ => ?_⟩
    have rs2 := rs1.mono e2 k2
    refine ⟨r2, s, h2, rp2, rs2, (PostS.ofE (rr := rD) rs2 p2).imp fun y H3 ⟨r3, dy, h3, e3, k3, rp3, rl3, p3⟩ => ?_⟩
    have rs3 := rs2.mono e3 k3
    have rl1 := (RelD.mono e2 k2 rl1).mono e3 k3
    have rl2 := RelD.mono e3 k3 rl2
    cases z : putG dx dy dv h3 with
    | none => rw [z] at p3; exact p3.elim
    | some h4 =>
      rw [z] at p3
      unfold putG at z
      cases rl2 with
      | @ref j ad ea =>
        dsimp only at z
        split at z
        · rename_i kvs hk
          cases z2 : keyD dy with
          | none => rw [z2] at z; cases z
          | some k =>
            rw [z2] at z
            have z : (if kvs.length < 1000000 then some (h3.set j (.dic (setK kvs k dv))) else none) = some h4 := z
            by_cases hz : kvs.length < 1000000
            · rw [if_pos hz] at z
              cases z
              obtain ⟨vs, q, rlv⟩ := rp3.obs _ _ ad hk ea
              have st := rp3.set (u := .dK (putK vs k v)) (o' := .dic (setK kvs k dv)) hk rfl rfl ea fun kp => ⟨_, upd_same, setK_rel (rl1.mono (Ext.refl _) kp) (RelP.mono (Ext.refl _) kp rlv)⟩
              refine ⟨ad, _, rfl, by rw [key_rel rl3 z2]; exact DPut.k q (line_lt (by rw [← len_rel rlv]; exact hz)), ?_⟩
              exact p3 r3 σ _ (Ext.refl _) st.2 st.1 (rs3.mono (Ext.refl _) st.2)
            · rw [if_neg hz] at z; cases z
        · cases z
      | _ => cases z
/-- {k: v, ..} -/
def mPairs : List (ME × ME) → SD → HP → R (List (D × D))
  | [], _, h => .ok [] h
  | (mk, mv) :: r, s, h => (mk s h).bind fun x h => (mv s h).bind fun y h => (mPairs r s h).bind fun ps h => .ok ((x, y) :: ps) h
def keysD : List (D × D) → Option (List (Key × D))
  | [] => some []
  | (x, y) :: r => match keyD x, keysD r with
    | some k, some ps => some ((k, y) :: ps)
    | _, _ => none
def mergeD (kvs more : List (Key × D)) : List (Key × D) := more.foldl (fun acc kv => setK acc kv.1 kv.2) kvs
def isDic0 : Option Ob → Bool
  | some (.dic []) => true
  | _ => false
def mDisp (ps : List (ME × ME)) : ME := fun s h => (mPairs ps s (h ++ [.dic []])).bind fun qs h2 => match keysD qs with
  | some kvs => bif isDic0 h2[h.length]? && decide (kvs.length ≤ 15) then .ok (.ref h.length) (h2.set h.length (.dic (mergeD [] kvs))) else .bad
  | none => .bad
def rDD : RR (List (D × D)) (List (V × V)) := ⟨fun K mg r H => Paired fun p q => RelD K mg r H p.1 q.1 ∧ RelD K mg r H p.2 q.2, fun e k h => L2.Paired.mapP h fun p q z => ⟨z.1.mono e k, z.2.mono e k⟩⟩
def QP (X : Cx) (W : WX) (pos : Pos) (keys : List (Option Expr)) (values : List Expr) (ms : List (ME × ME)) : Prop := PPs X pos keys values (ms.map fun p => (tM X.K X.mg rD W p.1, tM X.K X.mg rD W p.2))
theorem qp_nil : QP X W pos [] [] [] := pps_nil
theorem qp_cons {ks : List (Option Expr)} {vs : List Expr} {ms : List (ME × ME)} (hk : QE X W a ma) (hv : QE X W b mb) (hr : QP X W pos ks vs ms) : QP X W pos (some a :: ks) (b :: vs) ((ma, mb) :: ms) := pps_cons hk hv hr
theorem pairs_run {σ : L2.St} : ∀ (ms : List (ME × ME)) {r : List Addr} {s : SD} {h : HP} {H : Hp} {Q : List (V × V) → Hp → Prop}, Rep K mg r h H → RelSt K mg r H s σ → Post K mg rDD W r σ H Q (mPairs ms s h) →
    tPairs (ms.map fun p => (tM K mg rD W p.1, tM K mg rD W p.2)) σ H Q
  | [], r, s, h, H, Q, rp, rs, p => Post.here (rr := rDD) p rp .nil
  | (mk, mv) :: ms, r, s, h, H, Q, rp, rs, p => by
    unfold mPairs at p
    refine ⟨r, s, h, rp, rs, (Post.bind (rr1 := rD) p).imp fun x H1 ⟨r1, dx, h1, e1, k1, rp1, rl1, p1⟩ => ?_⟩
    refine ⟨r1, s, h1, rp1, rs.mono e1 k1, (Post.bind (rr1 := rD) p1).imp fun y H2 ⟨r2, dy, h2, e2, k2, rp2, rl2, p2⟩ => ?_⟩
    refine pairs_run ms rp2 ((rs.mono e1 k1).mono e2 k2) ((Post.bind (rr1 := rDD) p2).imp fun ps H3 ⟨r3, qs, h3, e3, k3, rp3, rl3, p3⟩ => ?_)
    exact Post.here (rr := rDD) p3 rp3 (.cons ⟨(RelD.mono e2 k2 rl1).mono e3 k3, RelD.mono e3 k3 rl2⟩ rl3)
theorem keysD_rel : ∀ {qs : List (D × D)} {ps : List (V × V)} {kvs : List (Key × D)}, Paired (fun p q => RelD K mg r H p.1 q.1 ∧ RelD K mg r H p.2 q.2) qs ps → keysD qs = some kvs → ∃ vs : List (Key × V), ps = vs.map (fun kv => (kV kv.1, kv.2)) ∧ RelP K mg r H kvs vs
  | _, _, _, .nil, e => by cases e; exact ⟨[], rfl, .nil⟩
  | (x, y) :: qs, (u, w) :: ps, kvs, .cons q t, e => by
    unfold keysD at e
    cases z1 : keyD x with
    | none => rw [z1] at e; cases e
    | some k =>
      cases z2 : keysD qs with
      | none => rw [z1, z2] at e; cases e
      | some kvs' =>
        rw [z1, z2] at e
        cases e
        obtain ⟨vs, z3, z4⟩ := keysD_rel t z2
        have z5 : u = kV k := key_rel q.1 z1
        subst z5 z3
        exact ⟨(k, w) :: vs, rfl, .cons ⟨rfl, q.2⟩ z4⟩
theorem mergeD_rel : ∀ {more : List (Key × D)} {mvs : List (Key × V)} {kvs : List (Key × D)} {vs : List (Key × V)}, RelP K mg r H more mvs → RelP K mg r H kvs vs → RelP K mg r H (mergeD kvs more) (mergeK vs mvs)
  | _, _, _, _, .nil, q => q
  | _, _, _, _, .cons p t, q => by
    unfold mergeD mergeK
    rw [List.foldl_cons, List.foldl_cons, p.1]
    exact mergeD_rel t (setK_rel p.2 q)
theorem qe_disp {keys : List (Option Expr)} {values : List Expr} {ms : List (ME × ME)} (hp : QP X W pos keys values ms) (hall : keys.all (·.isSome) = true := by rfl) (hl : keys.length = values.length := by rfl) (h0 : keys ≠ [] := by exact fun z => by cases z)
    (h15 : keys.length ≤ 15 := by decide) : QE X W (.Dict keys values pos) (mDisp ms) := (pe_disp hp hall hl h0 h15).imp fun σ H Q q => by
  obtain ⟨r, s, h, rp, rs, p⟩ := q
  intro ad hn
  have kn : Keep H (upd H ad (.dK [])) := Keep.new hn
  have rp1 : Rep X.K X.mg (r ++ [ad]) (h ++ [.dic []]) (upd H ad (.dK [])) := rp.new hn ⟨[], upd_same, .nil⟩
  have p1 := Post.mono p (Ext.one r ad) kn
  unfold mDisp at p1
  refine pairs_run ms rp1 (rs.mono (Ext.one r ad) kn) ((Post.bind (rr1 := rDD) p1).imp fun ps H2 ⟨r2, qs, h2, e2, k2, rp2, rl2, p2⟩ => ?_)
  cases z : keysD qs with
  | none => rw [z] at p2; exact p2.elim
  | some kvs =>
    rw [z] at p2
    dsimp only at p2
    cases z2 : isDic0 h2[h.length]? && decide (kvs.length ≤ 15) with
    | false => rw [z2] at p2; exact p2.elim
    | true =>
      rw [z2] at p2
      obtain ⟨z3, z4⟩ := Bool.and_eq_true_iff.mp z2
      have z5 : h2[h.length]? = some (.dic []) := by
        unfold isDic0 at z3
        split at z3
        · assumption
        · cases z3
      have ea : r2[h.length]? = some ad := e2.get (by rw [List.getElem?_append_right (by rw [rp.len]; exact Nat.le_refl _), rp.len]; simp)
      obtain ⟨vs0, q0, rl0⟩ := rp2.obs _ _ ad z5 ea
      cases rl0
      obtain ⟨vs, z6, z7⟩ := keysD_rel rl2 z
      refine ⟨q0, vs, z6, by rw [← len_rel z7]; exact of_decide_eq_true z4, ?_⟩
      have st := rp2.set (u := .dK (mergeK [] vs)) (o' := .dic (mergeD [] kvs)) z5 rfl rfl ea fun kp => ⟨_, upd_same, mergeD_rel (RelP.mono (Ext.refl _) kp z7) .nil⟩
      exact p2 r2 _ _ (Ext.refl _) st.2 st.1 (.ref ea)
/-- {} with keys to come: numbers, texts -/
def mDict0 : ME := fun _ h => .ok (.ref h.length) (h ++ [.dic []])
theorem qe_dict0 : QE X W (.Dict [] [] pos) mDict0 := pe_dnewK.imp fun σ H Q ⟨r, s, h, rp, rs, p⟩ => by
  intro ad hn
  refine p (r ++ [ad]) _ _ (Ext.one r ad) (Keep.new hn) (rp.new hn ⟨[], upd_same, .nil⟩) (.ref ?_)
  rw [List.getElem?_append_right (by rw [rp.len]; exact Nat.le_refl _), rp.len]; simp

/-! ### comprehensions over one name -/
abbrev W0 : WX := fun _ _ _ _ => False
def mYes : MT := fun _ h => .ok true h
abbrev QTs (X : Cx) (ifs : List Expr) (m : MT) : Prop := PTs X ifs (tM X.K X.mg rB W0 m)
theorem _root_.L2.PTs.imp {X : Cx} {e : List Expr} {t t' : TT} (h : PTs X e t) (f : ∀ σ H Q, t' σ H Q → t σ H Q) : PTs X e t' := ⟨fun pins s σ H Q I q => h.run pins s σ H Q I (f σ H Q q)⟩
theorem qts_nil : QTs X [] mYes := pts_nil.imp fun σ H Q ⟨r, s, h, rp, rs, p⟩ => Post.here (rr := rB) p rp rfl
theorem qts_one {m : MT} (hc : QT X W0 c m) : QTs X [c] m := pts_one hc
open Classical in
noncomputable def lcLoop (G : HP → Prop) (i : Nat) (c : MT) (el : ME) (n : Nat) : List D → SD → HP → R D
  | [], _, h => if G h then .ok (.ref n) h else .bad
  | d :: ds, s, h => if G h then (match c (s.set i (some d)) h with
    | .ok true h => (match el (s.set i (some d)) h with
      | .ok y h => (match h[n]? with
        | some (.lst acc) => if acc.length < 1000000 then lcLoop G i c el n ds s (h.set n (.lst (acc ++ [y]))) else .bad
        | _ => .bad)
      | _ => .bad)
    | .ok false h => lcLoop G i c el n ds s h
    | _ => .bad) else .bad
noncomputable def mLc (it : MI) (i : Nat) (c : MT) (el : ME) : ME := fun s h => (it s h).bind fun x h => lcLoop x.2 i c el h.length x.1 (s.set i none) (h ++ [.lst []])
theorem set_set {α : Type} : ∀ (l : List α) (i : Nat) (x y : α), (l.set i x).set i y = l.set i y
  | [], _, _, _ => rfl
  | _ :: _, 0, _, _ => rfl
  | a :: l, i + 1, x, y => by simp
theorem qe_lc {tg iter : Expr} {ifs : List Expr} {scope : Scope} {x : Str} {i : Nat} {mi : MI} {m : MT} (hc : X.calm = true) (hN : X.N.Nodup) (hi : QI X W tg iter mi) (ok : BlkOk X.N X.env.scope scope [(x, i)])
    (hg : ∀ (s : Shared) (H : Hp) (C : Addr) (cl : List (Str × Addr)) (fp : List Addr), PG (X.blk s H scope (compEnvC scope cl C X.env) fp) tg (gName i)) (ht : ∀ (s : Shared) (H : Hp) (C : Addr) (cl : List (Str × Addr)) (fp : List Addr), QTs (X.blk s H scope (compEnvC scope cl C X.env) fp) ifs m)
    (he : ∀ (s : Shared) (H : Hp) (C : Addr) (cl : List (Str × Addr)) (fp : List Addr), QE (X.blk s H scope (compEnvC scope cl C X.env) fp) W0 elt ma) (hs : ∀ x, foldedSetIterable iter X.env x = pure x := by intro _; rfl) :
    QE X W (.ListComp elt [⟨tg, iter, ifs, 0⟩] scope pos) (mLc mi i m ma) := (pe_lc (own := [(x, i)]) (tt := tM X.K X.mg rB W0 m) (te := tM X.K X.mg rD W0 ma) hc hN hi ok hg ht he hs).imp fun σ H Q q => by
  obtain ⟨r, s, h, rp, rs, p⟩ := q
  refine ⟨r, s, h, rp, rs, ?_⟩
  unfold mLc at p
  cases z : mi s h with
  | exc c fs h' => rw [z] at p; exact p
  | bad => rw [z] at p; exact p.elim
  | ok y h' =>
    rw [z] at p
    obtain ⟨ds, G⟩ := y
    have p : Post X.K X.mg rD W r σ H Q (lcLoop G i m ma h'.length ds (s.set i none) (h' ++ [.lst []])) := p
    intro r0 H0 J e0 k0 rp0 j Dl hn
    have kn : Keep H0 (upd H0 Dl (.lst [])) := Keep.new hn
    have rp1 : Rep X.K X.mg (r0 ++ [Dl]) (h' ++ [.lst []]) (upd H0 Dl (.lst [])) := rp0.new hn ⟨[], upd_same, .nil⟩
    have ea : (r0 ++ [Dl])[h'.length]? = some Dl := by rw [List.getElem?_append_right (by rw [rp0.len]; exact Nat.le_refl _), rp0.len]; simp
    have rs0 : RelSt X.K X.mg (r0 ++ [Dl]) (upd H0 Dl (.lst [])) (s.set i none) (wipe σ [i]) := ((rs.mono e0 k0).mono (Ext.one r0 Dl) kn).unset i
    refine ⟨fun n md H => md = ds.length - n ∧ ∃ r h, Ext (r0 ++ [Dl]) r ∧ Keep (upd H0 Dl (.lst [])) H ∧ Rep X.K X.mg r h H ∧ RelSt X.K X.mg r H (s.set i none) (wipe σ [i]) ∧ Post X.K X.mg rD W r σ H Q (lcLoop G i m ma h'.length (ds.drop n) (s.set i none) h), ⟨ds.length, by simp, r0 ++ [Dl], h' ++ [.lst []], Ext.refl _, Keep.refl _, rp1, rs0, by simpa using Post.mono (Post.mono p e0 k0) (Ext.one r0 Dl) kn⟩, ?_⟩
    rintro n md H1 ⟨rfl, r1, h1, e1, k1, rp1, rs1, p1⟩
    rcases Nat.lt_or_ge n ds.length with hlt | hge
    · rw [List.drop_eq_getElem_cons hlt] at p1
      unfold lcLoop at p1
      by_cases hG : G h1
      · rw [if_pos hG] at p1
        obtain ⟨j1, _⟩ := j n r1 H1 h1 ((Ext.one r0 Dl).trans e1) (kn.trans k1) rp1 hG
        obtain ⟨go, yl⟩ := j1 _ (List.getElem?_eq_getElem hlt)
        refine .inr ⟨go, fun H' => ∃ r h, Ext (r0 ++ [Dl]) r ∧ Keep (upd H0 Dl (.lst [])) H' ∧ Rep X.K X.mg r h H' ∧ RelSt X.K X.mg r H' (s.set i none) (wipe σ [i]) ∧ Post X.K X.mg rD W r σ H' Q (lcLoop G i m ma h'.length (ds.drop (n + 1)) (s.set i none) h), fun H' q => ⟨ds.length - (n + 1), by omega, rfl, q⟩, fun v H2 y2 => ?_⟩
        obtain ⟨k2, rp2, rl2⟩ := yl v H2 y2
        have rs2 := rs1.mono (Ext.refl _) k2
        have rs3 := rs2.set i rl2
        show wipe ((wipe σ [i]).set i (some v)) [i] = wipe σ [i] ∧ _
        refine ⟨by show ((σ.set i none).set i (some v)).set i none = σ.set i none; rw [set_set, set_set], ?_⟩
        have p2 := Post.mono p1 (Ext.refl _) k2
        refine ⟨r1, (s.set i none).set i (some ds[n]), h1, rp2, rs3, ?_⟩
        cases zc : m ((s.set i none).set i (some ds[n])) h1 with
        | exc c fs h3 => rw [zc] at p2; exact p2.elim
        | bad => rw [zc] at p2; exact p2.elim
        | ok bb h3 =>
          rw [zc] at p2
          intro r3 bb' H3 e3 k3 rp3 rlb
          have rlb : bb = bb' := rlb
          subst rlb
          cases bb with
          | false =>
            have p3 := Post.mono p2 e3 k3
            exact ⟨r3, h3, e1.trans e3, (k1.trans k2).trans k3, rp3, rs2.mono e3 k3, p3⟩
          | true =>
            refine ⟨r3, (s.set i none).set i (some ds[n]), h3, rp3, rs3.mono e3 k3, ?_⟩
            have p3 := Post.mono p2 e3 k3
            dsimp only at p3
            cases ze : ma ((s.set i none).set i (some ds[n])) h3 with
            | exc c fs h4 => rw [ze] at p3; exact p3.elim
            | bad => rw [ze] at p3; exact p3.elim
            | ok y h4 =>
              rw [ze] at p3
              intro r4 w H4 e4 k4 rp4 rly
              have p4 := Post.mono p3 e4 k4
              dsimp only at p4
              have ea4 : r4[h'.length]? = some Dl := e4.get (e3.get (e1.get ea))
              split at p4
              · rename_i acc hacc
                by_cases hz : acc.length < 1000000
                · rw [if_pos hz] at p4
                  obtain ⟨vs, qv, rlv⟩ := rp4.obs _ _ Dl hacc ea4
                  have st := rp4.set (u := .lst (vs ++ [w])) (o' := .lst (acc ++ [y])) hacc rfl rfl ea4 fun kp => ⟨_, upd_same, (rlv.mono (Ext.refl _) kp).append (.cons (RelD.mono (Ext.refl _) kp rly) .nil)⟩
                  refine ⟨vs, qv, line_lt (by rw [← rlv.length]; exact hz), r4, _, (e1.trans e3).trans e4, (((k1.trans k2).trans k3).trans k4).trans st.2, st.1, ((rs2.mono e3 k3).mono e4 k4).mono (Ext.refl _) st.2, ?_⟩
                  exact Post.mono p4 (Ext.refl _) st.2
                · rw [if_neg hz] at p4; exact p4.elim
              · exact p4.elim
      · rw [if_neg hG] at p1; exact p1.elim
    · rw [List.drop_eq_nil_of_le hge] at p1
      unfold lcLoop at p1
      by_cases hG : G h1
      · rw [if_pos hG] at p1
        refine .inl ⟨(j n r1 H1 h1 ((Ext.one r0 Dl).trans e1) (kn.trans k1) rp1 hG).2 hge, ?_⟩
        exact p1 r1 _ H1 (Ext.refl _) (Keep.refl _) rp1 (.ref (e1.get ea))
      · rw [if_neg hG] at p1; exact p1.elim
end
end PM
end
section
set_option Elab.async false
set_option linter.all false
set_option maxRecDepth 100000
set_option maxHeartbeats 1000000
namespace PM
open PySem PySem.Spec PyProof.Rows L2

abbrev FnP (K : PySem.W.Frag) (x : Str) (st : Stmt) (f : Addr) (fd : FuncData) : Prop := FunD K x x (defArgs st) (defBody st) (defScope st) [] [] f fd
/-- a def of the module, no defaults: all that calls of it ask -/
structure FnM (P : Program) (w : World) (K : PySem.W.Frag) (mg : Str → Option Value) (base : Heap) (k : Nat) (x : Str) (ps : List Str) (m : List D → HP → R D) : Prop where
  ex : ∃ f fd, mg x = some (.ref f) ∧ PySem.W.keepIn K (.ref f) = true ∧ Binds K fd ps [] ∧ FnOk P w K mg base (L2.CX P w) k f fd ps (spM K mg ps.length m)
theorem FnM.mono {P : Program} {w : World} {K : PySem.W.Frag} {mg : Str → Option Value} {base : Heap} {j k : Nat} {x : Str} {ps : List Str} {m : List D → HP → R D} (F : FnM P w K mg base j x ps m) (h : j ≤ k) : FnM P w K mg base k x ps m :=
  let ⟨f, fd, a, b, c, d⟩ := F.ex
  ⟨f, fd, a, b, c, d.mono h⟩
theorem fnOk_mk {P : Program} {w : World} {K : PySem.W.Frag} {mg : Str → Option Value} {base : Heap} {x : Str} {st : Stmt} {N ps : List Str} {k : Nat} {body : MS} {f : Addr} {fd : FuncData} (F : FnP K x st f fd) (S : FnScope N ps (defScope st))
    (hb : ∀ (cdv : Value) (A : Around) (outer : List Env) (s : Shared) (H : Hp) (E : XK), Room k (A.deeper (envOfC x (defScope st) s.heap.objs.size f cdv)) →
      QSs (cxOf (L2.CX P w) P w K mg base N x (defScope st) f cdv A outer s H E) (fun cls d _ H => E cls d H) (defBody st) body) : FnOk P w K mg base (L2.CX P w) (k + 1) f fd ps (spM K mg ps.length (runDef N.length body)) := by
  refine F.ok S (fun vs H Q E ⟨r, ds, h, rp, rl, hl, p⟩ => by rw [← rl.length]; exact hl) (fun cdv A outer s H vs Q E hr ⟨r, ds, h, rp, rl, hl, p⟩ => ?_)
  refine ⟨_, hb cdv A outer s H E hr, r, _, h, rp, relSt_start (N := N) rl, ?_⟩
  unfold runDef at p
  show PostS K mg _ r H _ (body (ds.map some ++ List.replicate (N.length - ds.length) none) h)
  cases z : body (ds.map some ++ List.replicate (N.length - ds.length) none) h with
  | nx s' h' => rw [z] at p; exact fun r' σ' H' e k rp' rs' => p r' .non H' e k rp' .non
  | rt d h' => rw [z] at p; exact fun r' v H' e k rp' rl' => p r' v H' e k rp' rl'
  | bk s' h' => rw [z] at p; exact p.elim
  | ct s' h' => rw [z] at p; exact p.elim
  | exc s' c fs h' => rw [z] at p; exact fun r' σ' cls dd H' e k rp' rs' xr => p r' cls dd H' e k rp' xr
  | bad => rw [z] at p; exact p.elim
theorem fnM_mk {P : Program} {w : World} {K : PySem.W.Frag} {mg : Str → Option Value} {base : Heap} {x : Str} {st : Stmt} {N ps : List Str} {k : Nat} {body : MS} {f : Addr} (F : ∃ fd, FnP K x st f fd) (gm : mg x = some (.ref f)) (S : FnScope N ps (defScope st))
    (bi : ∀ (kV doc pm : Value) (an : Option Addr) (cdv ct : Value) (us : List Value), us.length = ps.length → bindArgs (PySem.W.fnOf x x (defArgs st) (defBody st) (defScope st) .none kV doc pm an cdv ct) ⟨us, []⟩ = pure (ps.zip us))
    (hb : ∀ (cdv : Value) (A : Around) (outer : List Env) (s : Shared) (H : Hp) (E : XK), Room k (A.deeper (envOfC x (defScope st) s.heap.objs.size f cdv)) →
      QSs (cxOf (L2.CX P w) P w K mg base N x (defScope st) f cdv A outer s H E) (fun cls d _ H => E cls d H) (defBody st) body) : FnM P w K mg base (k + 1) x ps (runDef N.length body) := by
  obtain ⟨fd, F⟩ := F
  exact ⟨f, fd, gm, F.kp, FunD.bindsN F bi, fnOk_mk F S hb⟩
section
variable {X : Cx} {W : WX} {e : Expr} {es : List Expr} {t : MA} {pos : Pos} {x : Str} {p : Pos} {k : Nat} {ps : List Str} {m : List D → HP → R D}
theorem qf (F : FnM X.prog X.w X.K X.mg X.base k x ps m) (tk : Takes X W) (hr : Room k X.A) (hg : Gl X x) (hnp : ps.length = (e :: es).length) (ha : QA X W (e :: es) t) (ht : ∀ s h ds h', t s h = .ok ds h' → ds.length = (e :: es).length) (hdb : (x == ("__debug__" : Str)) = false := by decide) (he : starEach (e :: es) X.env = (false, eval e X.env) :: starEach es X.env := by rfl) (hpl : (backTo pos (starEach es X.env)).any (·.1) = false := by rfl) :
    QE X W (.Call (.Name x p) (e :: es) [] pos) (mCall m t) := by
  obtain ⟨f, fd, gm, kp, b, F⟩ := F.ex
  exact qe_call F hnp tk hr hg gm kp b ha ht hdb he hpl
theorem qf0 (F : FnM X.prog X.w X.K X.mg X.base k x [] m) (tk : Takes X W) (hr : Room k X.A) (hg : Gl X x) (hdb : (x == ("__debug__" : Str)) = false := by decide) : QE X W (.Call (.Name x p) [] [] pos) (mCall m mNil) := by
  obtain ⟨f, fd, gm, kp, b, F⟩ := F.ex
  exact qe_call0 F tk hr hg gm kp b hdb
end

/-! ### constants of the module -/
def constN : Nat → PySem.W.Frag → D → Value → Bool
  | 0, _, _, _ => false
  | n + 1, K, d, u => match d, u with
    | .non, .none => true
    | .bl b, .bool c => b == c
    | .int i, .int j _ => decide (i = j)
    | .str x, .str y _ => decide (x = y)
    | .tup xs, .ref a => (match K.lookup a with
      | some ⟨.type c, _, .seq its _, _⟩ => decide (c = "tuple") && (decide (its.size ≤ sizeLine) && allN (constN n K) xs its.toList)
      | _ => false)
    | _, _ => false
where allN (f : D → Value → Bool) : List D → List Value → Bool
  | [], [] => true
  | d :: ds, u :: us => f d u && allN f ds us
  | _, _ => false
def ConstV (K : PySem.W.Frag) (mg : Str → Option Value) (d : D) (u : Value) : Prop := ∃ v, RelV v u ∧ ∀ r H, RelD K mg r H d v
theorem allN_ok {K : PySem.W.Frag} {mg : Str → Option Value} {f : D → Value → Bool} (hf : ∀ d u, f d u = true → ConstV K mg d u) : ∀ {ds : List D} {us : List Value}, constN.allN f ds us = true → ∃ vs, Vals vs us ∧ ∀ r H, RelDs K mg r H ds vs
  | [], [], _ => ⟨[], .nil, fun _ _ => .nil⟩
  | [], _ :: _, h => by cases h
  | _ :: _, [], h => by cases h
  | d :: ds, u :: us, h => by
    obtain ⟨h1, h2⟩ := Bool.and_eq_true_iff.mp (show (f d u && constN.allN f ds us) = true from h)
    obtain ⟨v, a, b⟩ := hf d u h1
    obtain ⟨vs, c, e⟩ := allN_ok hf h2
    exact ⟨v :: vs, .cons a c, fun r H => .cons (b r H) (e r H)⟩
theorem constN_ok {K : PySem.W.Frag} {mg : Str → Option Value} : ∀ (n : Nat) (d : D) (u : Value), constN n K d u = true → ConstV K mg d u
  | 0, _, _, h => by cases h
  | n + 1, d, u, h => by
    unfold constN at h
    split at h
    · exact ⟨.non, rfl, fun _ _ => .non⟩
    · rename_i b c; rw [beq_iff_eq.mp h]; exact ⟨.bl c, rfl, fun _ _ => .bl c⟩
    · rename_i i j t; rw [of_decide_eq_true h]; exact ⟨.int j, ⟨t, rfl⟩, fun _ _ => .int j⟩
    · rename_i x y t; rw [of_decide_eq_true h]; exact ⟨.str y, ⟨t, rfl⟩, fun _ _ => .str y⟩
    · rename_i xs a
      split at h
      · rename_i c dd its n' sl hk
        obtain ⟨h1, h2⟩ := Bool.and_eq_true_iff.mp h
        obtain ⟨h3, h4⟩ := Bool.and_eq_true_iff.mp h2
        obtain ⟨vs, q1, q2⟩ := allN_ok (mg := mg) (fun d u => constN_ok n d u) h4
        refine ⟨.ref a, rfl, fun r H => .tup (.inr ⟨_, its, n', hk, congrArg Value.type (of_decide_eq_true h1), rfl, of_decide_eq_true h3, q1⟩) (q2 r H)⟩
      · cases h
    · cases h
def constB (K : PySem.W.Frag) (q : Str × D) : Bool := match PySem.W.nsIn K mainGlobals q.1 with
  | some (some u) => constN 8 K q.2 u
  | _ => false
def GConst (K : PySem.W.Frag) (mg : Str → Option Value) (x : Str) (d : D) : Prop := ∃ u, mg x = some u ∧ ConstV K mg d u
theorem constB_ok {K : PySem.W.Frag} {mg : Str → Option Value} {h : Heap} {q : Str × D} (X : K.In h) (G : h.Ns mainGlobals mg) (c : constB K q = true) : GConst K mg q.1 q.2 := by
  unfold constB at c
  cases e : PySem.W.nsIn K mainGlobals q.1 with
  | none => rw [e] at c; cases c
  | some o =>
    rw [e] at c
    cases o with
    | none => cases c
    | some u => exact ⟨u, PySem.W.mg_of X G e, constN_ok 8 _ _ c⟩
theorem qe_gc {X : Cx} {W : WX} {x : Str} {d : D} {pos : Pos} (hg : Gl X x) (g : GConst X.K X.mg x d) (hd : (x == ("__debug__" : Str)) = false := by decide) : QE X W (.Name x pos) (mC d) := by
  obtain ⟨u, hm, v, rv, q⟩ := g
  exact qe_const (pe_glob (v := v) hg hm rv hd) q
end PM
namespace PM
open PySem PySem.Spec PyProof.Rows L2
def negG : D → HP → Option (D × HP) := fun x h => match x with
  | .int i => some (.int (-i), h)
  | _ => none
theorem un_negG {X : Cx} : UnR X (unaryOp .USub) (rV1 X.K X.mg negG) := by
  intro pins s σ H x v Q I rx ⟨r, a, h, rp, ra, p⟩
  unfold negG at p
  cases ra with
  | int i => exact un_neg pins s σ H _ v Q I rx ⟨i, rfl, p.here rp (.int _)⟩
  | _ => exact p.elim
def iaddG : D → D → HP → Option (D × HP) := fun x y h => match x, y with
  | .int i, .int j => some (.int (i + j), h)
  | .str a, .str b => if a.length + b.length ≤ 1000000 then some (.str (a ++ b), h) else none
  | _, _ => none
theorem iop_iaddG {X : Cx} : OpR X (inplaceOp .Add) (rV2 X.K X.mg iaddG) := iop_addG

/-! the law's end -/
theorem cx_no {P : Program} {w : World} (H : Hp) (s : Shared) (e : Value) (s' : Shared) (h : L2.CX P w [] H s (fun _ _ _ => False) e s') : False := by
  obtain ⟨_, _, _, _, _, _, _, _, _, _, _, _, z⟩ := h
  exact z
theorem rep_script {K : PySem.W.Frag} {mg : Str → Option Value} {H : Hp} {a : Addr} {ns : List Int} (q : (∃ ob, H a = some (.frz ob (.lst (ns.map V.int)))) ∨ SqL K (fun _ => none) a (ns.map V.int)) : Rep K mg [a] [.rdl (ns.map D.int)] H := by
  refine ⟨rfl, fun i o b e1 e2 => ?_, fun i j b oi oj e1 e2 m1 m2 e3 e4 => ?_⟩
  · cases i with
    | zero =>
      cases e1; cases e2
      exact ⟨_, q, RelDs.ints ns⟩
    | succ i => cases e1
  · cases i with
    | zero => cases e1; cases m1
    | succ i => cases e1
/-- the law's promise from its plain program -/
theorem law_end {K : PySem.W.Frag} {mg : Str → Option Value} {m : List D → HP → R D} {H : Hp} {a : Addr} {ns : List Int} (hm : ∃ h', m [.ref 0] [.rdl (ns.map D.int)] = .ok (.bl true) h') (hO : Only H) (hS : SqL K H a (ns.map V.int)) :
    spM K mg 1 m [.ref a] H (fun v _ => v = .bl true) fun _ _ _ => False := by
  obtain ⟨h', e⟩ := hm
  refine ⟨[a], [.ref 0], [.rdl (ns.map D.int)], rep_script ?_, .cons (.ref rfl) .nil, rfl, ?_⟩
  · rcases hS with (q | ⟨ob, q⟩) | q
    · rcases hO a with z | ⟨ob, xs, z⟩
      · rw [q] at z; cases z
      · rw [q] at z; cases z
    · exact .inl ⟨ob, q⟩
    · exact .inr (.inr q)
  · rw [e]
    intro r' v H' _ _ _ rl
    cases rl
    rfl
/-- the end of a law's row: K, the law's def by its plain program, what that gives -/
theorem walk_pm {l : PySem.W.OpenLaw} {k : Nat} {q : Program} {loose : List Str} {XP : (Str → Option Value) → Heap → Prop} {YP : World → Heap → Prop} {d : DefRec} {m : List D → HP → R D}
    (hn : l.most = some 63) (hdf : d.params.defaults = []) (hr : Room k callerA)
    (F : ∀ (w : World) (mg : Str → Option Value) (fa : Addr) (h : Heap), YP w h → h.Ns mainGlobals mg → mg d.name = some (.ref fa) →
      ∃ (K : PySem.W.Frag) (fd : FuncData), K.In h ∧ (∀ (s : Shared) (u : Value), BindsTo s fd ⟨[u], []⟩ [("script", u)]) ∧ ∀ base : Heap, FnOk l.prog w K mg base (L2.CX l.prog w) k fa fd ["script"] (spM K mg 1 m))
    (main : ∀ ns : List Int, ns.length ≤ 63 → (∀ z ∈ ns, Builtin.Int.intBits z ≤ 1048576) → ∃ h', m [.ref 0] [.rdl (ns.map D.int)] = .ok (.bl true) h') :
    PySem.W.WalkO q loose XP YP l.row.toRowW d [] (fun f vs => PySem.call f vs) := by
  refine Att.attach_callB hn hdf fun w s0 s1 mg mb fa o pm cd doc a vs ns G Y ho hd hcd hmg hobj hints hlen hbits hg => ?_
  obtain ⟨K, fd, KX, hb, hF⟩ := F w mg fa _ Y G.T.g hmg
  refine law_call KX G.T.g G.T.b G.T.builtins G.T.nolimit hg hobj hints (line_of (by omega)) hr (fun base _ _ => hF base) hb (fun H hO hS => ?_) fun H e s' => cx_no H s1 e s'
  exact law_end (main ns hlen hbits) hO hS
end PM
end
section
set_option Elab.async false
set_option linter.all false
set_option maxRecDepth 100000
set_option maxHeartbeats 1000000
/-! the plain layer run step by step: rows for simp, each for a step that is fully applied -/
namespace PM
open PySem L2
section
variable {α β : Type} {s : SD} {h : HP} {a b c : ME} {ta tb : MT} {t : MA} {p q : MS} {i n : Nat} {d x y : D} {ds : List D}
theorem bind_ok {a : α} {k : α → HP → R β} : (R.ok a h).bind k = k a h := (rfl)
theorem toS_ok {a : α} {k : α → HP → RS} : (R.ok a h).toS s k = k a h := (rfl)
theorem seq_nx {k : SD → HP → RS} : (RS.nx s h).seq k = k s h := (rfl)
theorem seq_rt {k : SD → HP → RS} : (RS.rt d h).seq k = .rt d h := (rfl)
theorem seq_bk {k : SD → HP → RS} : (RS.bk s h).seq k = .bk s h := (rfl)
theorem seq_ct {k : SD → HP → RS} : (RS.ct s h).seq k = .ct s h := (rfl)
theorem seq_exc {k : SD → HP → RS} {c fs} : (RS.exc s c fs h).seq k = .exc s c fs h := (rfl)
theorem bind_exc {k : α → HP → R β} {c fs} : (R.exc c fs h : R α).bind k = .exc c fs h := (rfl)
theorem toS_exc {k : α → HP → RS} {c fs} : (R.exc c fs h : R α).toS s k = .exc s c fs h := (rfl)
theorem mSeq_ap : mSeq p q s h = (p s h).seq q := (rfl)
theorem mNext_ap : mNext s h = .nx s h := (rfl)
def kSet (i : Nat) (s : SD) (d : D) (h : HP) : RS := .nx (s.set i (some d)) h
theorem mSet_ap : mSet i a s h = (a s h).toS s (kSet i s) := (rfl)
theorem kSet_ap : kSet i s d h = .nx (s.set i (some d)) h := (rfl)
def kAsg (g : MG) (s : SD) (d : D) (h : HP) : RS := ofS (g d s) h
theorem mAsg_ap {g : MG} : mAsg g a s h = (a s h).toS s (kAsg g s) := (rfl)
theorem kAsg_ap {g : MG} : kAsg g s d h = ofS (g d s) h := (rfl)
theorem ofS_some : ofS (some s) h = .nx s h := (rfl)
theorem gN_ap : gN i d s = some (s.set i (some d)) := (rfl)
theorem gTup_ap {t} : PM.gTup n t (.tup ds) s = if ds.length = n then t ds s else none := (rfl)
theorem gCons_ap {g : MG} {t} : PM.gCons g t (d :: ds) s = (g d s).bind (t ds) := (rfl)
theorem gNil_ap : PM.gNil [] s = some s := (rfl)
def kDrop (s : SD) (_ : D) (h : HP) : RS := .nx s h
theorem mDrop_ap : mDrop a s h = (a s h).toS s (kDrop s) := (rfl)
theorem kDrop_ap : kDrop s d h = .nx s h := (rfl)
theorem mRet_ap : mRet a s h = (a s h).toS s RS.rt := (rfl)
theorem mRetN_ap : mRetN s h = .rt .non h := (rfl)
def kIf (p q : MS) (s : SD) (x : Bool) (h : HP) : RS := bif x then p s h else q s h
theorem mIfS_ap : mIfS ta p q s h = (ta s h).toS s (kIf p q s) := (rfl)
theorem kIf_t : kIf p q s true h = p s h := (rfl)
theorem kIf_f : kIf p q s false h = q s h := (rfl)
theorem mBreak_ap : mBreak s h = .bk s h := (rfl)
theorem mCont_ap : mCont s h = .ct s h := (rfl)
theorem mBad_ap : mBad s h = .bad := (rfl)
def kAug (g : D → D → HP → Option (D × HP)) (i : Nat) (s : SD) (x : D) (y : D) (h : HP) : RS := (ofO (g x y h)).toS s (kSet i s)
theorem mAug_ap {g} : mAug i g a s h = match s[i]? with
  | some (some x) => (a s h).toS s (kAug g i s x)
  | _ => .bad := (rfl)
theorem kAug_ap {g} : kAug g i s x y h = (ofO (g x y h)).toS s (kSet i s) := (rfl)
theorem mVar_ap : mVar i s h = match s[i]? with
  | some (some d) => .ok d h
  | _ => .bad := (rfl)
theorem mC_ap : mC d s h = .ok d h := (rfl)
def k1 (g : D → HP → Option (D × HP)) (x : D) (h : HP) : R D := ofO (g x h)
theorem m1_ap {g} : m1 g a s h = (a s h).bind (k1 g) := (rfl)
theorem k1_ap {g} : k1 g x h = ofO (g x h) := (rfl)
def k2' (g : D → D → HP → Option (D × HP)) (x y : D) (h : HP) : R D := ofO (g x y h)
def k2 (g : D → D → HP → Option (D × HP)) (b : ME) (s : SD) (x : D) (h : HP) : R D := (b s h).bind (k2' g x)
theorem m2_ap {g} : m2 g a b s h = (a s h).bind (k2 g b s) := (rfl)
theorem k2_ap {g} : k2 g b s x h = (b s h).bind (k2' g x) := (rfl)
theorem k2'_ap {g} : k2' g x y h = ofO (g x y h) := (rfl)
theorem ofO_some : ofO (some (d, h)) = .ok d h := (rfl)
theorem mNil_ap : mNil s h = .ok [] h := (rfl)
def kC' (x : D) (xs : List D) (h : HP) : R (List D) := .ok (x :: xs) h
def kC (t : MA) (s : SD) (x : D) (h : HP) : R (List D) := (t s h).bind (kC' x)
theorem mCons_ap : mCons a t s h = (a s h).bind (kC t s) := (rfl)
theorem kC_ap : kC t s x h = (t s h).bind (kC' x) := (rfl)
theorem kC'_ap : kC' x ds h = .ok (x :: ds) h := (rfl)
theorem mCall_ap {g : List D → HP → R D} : mCall g t s h = (t s h).bind g := (rfl)
def kB (g : List D → HP → Option (D × HP)) (xs : List D) (h : HP) : R D := ofO (g xs h)
theorem mB_ap {g} : mB g t s h = (t s h).bind (kB g) := (rfl)
theorem kB_ap {g} : kB g ds h = ofO (g ds h) := (rfl)
def kM' (g : D → List D → HP → Option (D × HP)) (x : D) (xs : List D) (h : HP) : R D := ofO (g x xs h)
def kM (T : String) (g : D → List D → HP → Option (D × HP)) (t : MA) (s : SD) (x : D) (h : HP) : R D := bif tyB T x h then (t s h).bind (kM' g x) else .bad
theorem mMeth_ap {T g} : mMeth T g a t s h = (a s h).bind (kM T g t s) := (rfl)
theorem kM_ap {T g} : kM T g t s x h = bif tyB T x h then (t s h).bind (kM' g x) else .bad := (rfl)
theorem kM'_ap {g} : kM' g x ds h = ofO (g x ds h) := (rfl)
theorem mTest_ap : mTest a s h = (a s h).bind kBl := (rfl)
theorem kBl_ap {b : Bool} : kBl (.bl b) h = .ok b h := (rfl)
def kNot (b : Bool) (h : HP) : R Bool := .ok (!b) h
theorem mNot_ap : mNot ta s h = (ta s h).bind kNot := (rfl)
theorem kNot_ap {b} : kNot b h = .ok (!b) h := (rfl)
def kAnd (b : MT) (s : SD) (x : Bool) (h : HP) : R Bool := bif x then b s h else .ok false h
theorem mAnd_ap : mAnd ta tb s h = (ta s h).bind (kAnd tb s) := (rfl)
theorem kAnd_t : kAnd tb s true h = tb s h := (rfl)
theorem kAnd_f : kAnd tb s false h = .ok false h := (rfl)
def kOr (b : MT) (s : SD) (x : Bool) (h : HP) : R Bool := bif x then .ok true h else b s h
theorem mOr_ap : mOr ta tb s h = (ta s h).bind (kOr tb s) := (rfl)
theorem kOr_t : kOr tb s true h = .ok true h := (rfl)
theorem kOr_f : kOr tb s false h = tb s h := (rfl)
def kIfE (a b : ME) (s : SD) (x : Bool) (h : HP) : R D := bif x then a s h else b s h
theorem mIfE_ap : mIfE ta a b s h = (ta s h).bind (kIfE a b s) := (rfl)
theorem kIfE_t : kIfE a b s true h = a s h := (rfl)
theorem kIfE_f : kIfE a b s false h = b s h := (rfl)
def kAndV (b : ME) (s : SD) (x : Bool) (h : HP) : R D := bif x then b s h else .ok (.bl false) h
theorem mAndV_ap : mAndV a b s h = ((a s h).bind kBl).bind (kAndV b s) := (rfl)
theorem kAndV_t : kAndV b s true h = b s h := (rfl)
theorem kAndV_f : kAndV b s false h = .ok (.bl false) h := (rfl)
def kOrV (b : ME) (s : SD) (x : Bool) (h : HP) : R D := bif x then .ok (.bl true) h else b s h
theorem mOrV_ap : mOrV a b s h = ((a s h).bind kBl).bind (kOrV b s) := (rfl)
theorem kOrV_t : kOrV b s true h = .ok (.bl true) h := (rfl)
theorem kOrV_f : kOrV b s false h = b s h := (rfl)
def kNotV (x : Bool) (h : HP) : R D := .ok (.bl (!x)) h
theorem mNotV_ap : mNotV a s h = ((a s h).bind kBl).bind kNotV := (rfl)
theorem kNotV_ap {b : Bool} : kNotV b h = .ok (.bl (!b)) h := (rfl)
def kTup (xs : List D) (h : HP) : R D := if xs.length ≤ 1000000 then .ok (.tup xs) h else .bad
theorem mTup_ap : mTup t s h = (t s h).bind kTup := (rfl)
theorem kTup_ap : kTup ds h = if ds.length ≤ 1000000 then .ok (.tup ds) h else .bad := (rfl)
def kLst (xs : List D) (h : HP) : R D := if xs.length ≤ 1000000 then .ok (.ref h.length) (h ++ [.lst xs]) else .bad
theorem mLst_ap : mLst t s h = (t s h).bind kLst := (rfl)
theorem kLst_ap : kLst ds h = if ds.length ≤ 1000000 then .ok (.ref h.length) (h ++ [.lst ds]) else .bad := (rfl)
theorem mNoPart_ap : mNoPart s h = .ok none h := (rfl)
theorem mPart_ap : mPart a s h = (a s h).bind kInt := (rfl)
theorem kInt_ap {j : Int} : kInt (.int j) h = .ok (some j) h := (rfl)
def kSl3 (g : D → Option Int → Option Int → HP → Option (D × HP)) (x : D) (lo hi : Option Int) (h : HP) : R D := ofO (g x lo hi h)
def kSl2 (g : D → Option Int → Option Int → HP → Option (D × HP)) (u : MO) (s : SD) (x : D) (lo : Option Int) (h : HP) : R D := (u s h).bind (kSl3 g x lo)
def kSl1 (g : D → Option Int → Option Int → HP → Option (D × HP)) (l u : MO) (s : SD) (x : D) (h : HP) : R D := (l s h).bind (kSl2 g u s x)
theorem mSl_ap {g} {l u : MO} : mSl g a l u s h = (a s h).bind (kSl1 g l u s) := (rfl)
theorem kSl1_ap {g} {l u : MO} : kSl1 g l u s x h = (l s h).bind (kSl2 g u s x) := (rfl)
theorem kSl2_ap {g} {u : MO} {lo} : kSl2 g u s x lo h = (u s h).bind (kSl3 g x lo) := (rfl)
theorem kSl3_ap {g lo hi} : kSl3 g x lo hi h = ofO (g x lo hi h) := (rfl)
def kCh3 (g' : D → D → HP → Option (D × HP)) (y z : D) (h : HP) : R D := ofO (g' y z h)
def kCh2 (g' : D → D → HP → Option (D × HP)) (c : ME) (s : SD) (y : D) (k : Bool) (h : HP) : R D := bif k then (c s h).bind (kCh3 g' y) else .ok (.bl false) h
def kCh1 (g g' : D → D → HP → Option (D × HP)) (c : ME) (s : SD) (x y : D) (h : HP) : R D := ((ofO (g x y h)).bind kBl).bind (kCh2 g' c s y)
def kCh0 (g g' : D → D → HP → Option (D × HP)) (b c : ME) (s : SD) (x : D) (h : HP) : R D := (b s h).bind (kCh1 g g' c s x)
theorem mChain_ap {g g'} : mChain g g' a b c s h = (a s h).bind (kCh0 g g' b c s) := (rfl)
theorem kCh0_ap {g g'} : kCh0 g g' b c s x h = (b s h).bind (kCh1 g g' c s x) := (rfl)
theorem kCh1_ap {g g'} : kCh1 g g' c s x y h = ((ofO (g x y h)).bind kBl).bind (kCh2 g' c s y) := (rfl)
theorem kCh2_t {g'} : kCh2 g' c s y true h = (c s h).bind (kCh3 g' y) := (rfl)
theorem kCh2_f {g'} : kCh2 g' c s y false h = .ok (.bl false) h := (rfl)
theorem kCh3_ap {g'} : kCh3 g' x y h = ofO (g' x y h) := (rfl)
def kP3 (s : SD) (v x : D) (y : D) (h : HP) : RS := match putG x y v h with
  | some h => .nx s h
  | none => .bad
def kP2 (i : ME) (s : SD) (v x : D) (h : HP) : RS := (i s h).toS s (kP3 s v x)
def kP1 (o i : ME) (s : SD) (v : D) (h : HP) : RS := (o s h).toS s (kP2 i s v)
theorem mPutD_ap : mPutD a b c s h = (a s h).toS s (kP1 b c s) := (rfl)
theorem kP1_ap : kP1 b c s x h = (b s h).toS s (kP2 c s x) := (rfl)
theorem kP2_ap : kP2 c s x y h = (c s h).toS s (kP3 s x y) := (rfl)
theorem kP3_ap {v} : kP3 s v x y h = match putG x y v h with
  | some h => .nx s h
  | none => .bad := (rfl)
/-- a def's end -/
def fin : RS → R D
  | .nx _ h => .ok .non h
  | .rt d h => .ok d h
  | .exc _ c fs h => .exc c fs h
  | _ => .bad
theorem runDef_ap : runDef n p ds h = fin (p (ds.map some ++ List.replicate (n - ds.length) none) h) := by
  unfold runDef fin
  cases p (ds.map some ++ List.replicate (n - ds.length) none) h <;> rfl
theorem fin_nx : fin (.nx s h) = .ok .non h := (rfl)
theorem fin_rt : fin (.rt d h) = .ok d h := (rfl)
theorem fin_exc {c fs} : fin (.exc s c fs h) = .exc c fs h := (rfl)
theorem mFor_ok {it : MI} {g : MG} {xs : List D} {G : HP → Prop} {h' : HP} (e : it s h = .ok (xs, G) h') : mFor it g p s h = mLoop G g p xs s h' := by
  unfold mFor; rw [e]; rfl
theorem mLoop_nil {G : HP → Prop} {g : MG} (hG : G h) : mLoop G g p [] s h = .nx s h := by
  unfold mLoop; rw [if_pos hG]
theorem mLoop_nx {G : HP → Prop} {g : MG} {s1 s2 : SD} {h2 : HP} (hG : G h) (e : g d s = some s1) (e2 : p s1 h = .nx s2 h2 ∨ p s1 h = .ct s2 h2) : mLoop G g p (d :: ds) s h = mLoop G g p ds s2 h2 := by
  rw [mLoop]
  dsimp only
  rw [if_pos hG, e]
  dsimp only
  rcases e2 with e2 | e2 <;> rw [e2]
theorem mLoop_bk {G : HP → Prop} {g : MG} {s1 s2 : SD} {h2 : HP} (hG : G h) (e : g d s = some s1) (e2 : p s1 h = .bk s2 h2) : mLoop G g p (d :: ds) s h = .nx s2 h2 := by
  rw [mLoop]
  dsimp only
  rw [if_pos hG, e]
  dsimp only
  rw [e2]
theorem mLoop_rt {G : HP → Prop} {g : MG} {s1 : SD} {h2 : HP} (hG : G h) (e : g d s = some s1) (e2 : p s1 h = .rt x h2) : mLoop G g p (d :: ds) s h = .rt x h2 := by
  rw [mLoop]
  dsimp only
  rw [if_pos hG, e]
  dsimp only
  rw [e2]
theorem mLoop_exc {G : HP → Prop} {g : MG} {s1 s2 : SD} {h2 : HP} {c fs} (hG : G h) (e : g d s = some s1) (e2 : p s1 h = .exc s2 c fs h2) : mLoop G g p (d :: ds) s h = .exc s2 c fs h2 := by
  rw [mLoop]
  dsimp only
  rw [if_pos hG, e]
  dsimp only
  rw [e2]
/-- while: by fuel -/
theorem mWhile_eq : mWhile ta p = mWhileN wN ta p := by unfold mWhile; rfl
theorem wh_f {h' : HP} (e : ta s h = .ok false h') : mWhileN (n + 1) ta p s h = .nx s h' := by
  show (ta s h).toS s _ = _
  rw [e]; rfl
theorem wh_nx {h' h2 : HP} {s2 : SD} (e : ta s h = .ok true h') (e2 : p s h' = .nx s2 h2 ∨ p s h' = .ct s2 h2) : mWhileN (n + 1) ta p s h = mWhileN n ta p s2 h2 := by
  show (ta s h).toS s _ = _
  rw [e]
  show (match p s h' with | .nx s h => mWhileN n ta p s h | .ct s h => mWhileN n ta p s h | .bk s h => .nx s h | .rt d h => .rt d h | .exc s c fs h => .exc s c fs h | .bad => .bad) = _
  rcases e2 with e2 | e2 <;> rw [e2]
theorem wh_exc {h' h2 : HP} {s2 : SD} {c fs} (e : ta s h = .ok true h') (e2 : p s h' = .exc s2 c fs h2) : mWhileN (n + 1) ta p s h = .exc s2 c fs h2 := by
  show (ta s h).toS s _ = _
  rw [e]
  show (match p s h' with | .nx s h => mWhileN n ta p s h | .ct s h => mWhileN n ta p s h | .bk s h => .nx s h | .rt d h => .rt d h | .exc s c fs h => .exc s c fs h | .bad => .bad) = _
  rw [e2]
/-- the comprehension's turns -/
theorem lc_nil {G : HP → Prop} {cc : MT} {el : ME} (hG : G h) : lcLoop G i cc el n [] s h = .ok (.ref n) h := by
  unfold lcLoop; rw [if_pos hG]
theorem lc_yes {G : HP → Prop} {cc : MT} {el : ME} {h1 h2 : HP} {acc : List D} (hG : G h) (e1 : cc (s.set i (some d)) h = .ok true h1) (e2 : el (s.set i (some d)) h1 = .ok y h2) (e3 : h2[n]? = some (.lst acc)) (hl : acc.length < 1000000) :
    lcLoop G i cc el n (d :: ds) s h = lcLoop G i cc el n ds s (h2.set n (.lst (acc ++ [y]))) := by
  rw [lcLoop, if_pos hG, e1]
  dsimp only
  rw [e2]
  dsimp only
  rw [e3]
  dsimp only
  rw [if_pos hl]
theorem lc_no {G : HP → Prop} {cc : MT} {el : ME} {h1 : HP} (hG : G h) (e1 : cc (s.set i (some d)) h = .ok false h1) : lcLoop G i cc el n (d :: ds) s h = lcLoop G i cc el n ds s h1 := by
  rw [lcLoop, if_pos hG, e1]
theorem mLc_ok {it : MI} {cc : MT} {el : ME} {xs : List D} {G : HP → Prop} {h' : HP} (e : it s h = .ok (xs, G) h') : mLc it i cc el s h = lcLoop G i cc el h'.length xs (s.set i none) (h' ++ [.lst []]) := by
  unfold mLc; rw [e]; rfl
theorem mYes_ap : mYes s h = .ok true h := (rfl)
/-- a comprehension whose elements are plain values and change nothing -/
theorem lc_pure {G : HP → Prop} {el : ME} {f : D → D} {hh : HP} (hG : ∀ acc, G (hh ++ [.lst acc])) (he : ∀ d ∈ ds, ∀ acc, el (s.set i (some d)) (hh ++ [.lst acc]) = .ok (f d) (hh ++ [.lst acc])) :
    ∀ (acc : List D), acc.length + ds.length ≤ 1000000 → lcLoop G i mYes el hh.length ds s (hh ++ [.lst acc]) = .ok (.ref hh.length) (hh ++ [.lst (acc ++ ds.map f)]) := by
  induction ds with
  | nil => intro acc _; rw [lc_nil (hG acc), List.map_nil, List.append_nil]
  | cons d ds ih =>
    intro acc hl
    rw [List.length_cons] at hl
    have e3 : (hh ++ [Ob.lst acc])[hh.length]? = some (.lst acc) := by rw [List.getElem?_append_right (Nat.le_refl _)]; simp
    rw [lc_yes (hG acc) rfl (he d List.mem_cons_self acc) e3 (by omega)]
    have e4 : (hh ++ [Ob.lst acc]).set hh.length (.lst (acc ++ [f d])) = hh ++ [.lst (acc ++ [f d])] := by
      rw [List.set_append_right _ _ (Nat.le_refl _)]; simp
    rw [e4, ih (fun d hd => he d (List.mem_cons_of_mem _ hd)) (acc ++ [f d]) (by simp; omega)]
    simp
/-! operators on values -/
theorem cMul_r {i j : Int} (h : -1000000000000 ≤ j ∧ j ≤ 1000000000000) : cMul i j = true := by
  unfold cMul
  rw [Bool.or_eq_true]
  right
  rw [Bool.and_eq_true, decide_eq_true_eq, decide_eq_true_eq]
  omega
theorem cMul_l {i j : Int} (h : -1000000000000 ≤ i ∧ i ≤ 1000000000000) : cMul i j = true := by
  unfold cMul
  rw [Bool.or_eq_true]
  left
  rw [Bool.and_eq_true, decide_eq_true_eq, decide_eq_true_eq]
  omega
theorem add_ii {i j : Int} : addG (.int i) (.int j) h = some (.int (i + j), h) := (rfl)
theorem iadd_ii {i j : Int} : iaddG (.int i) (.int j) h = some (.int (i + j), h) := (rfl)
theorem add_ss {u v : Str} (c : u.length + v.length ≤ 1000000) : addG (.str u) (.str v) h = some (.str (u ++ v), h) := by unfold addG; dsimp only; rw [if_pos c]
theorem sub_ii {i j : Int} : subG (.int i) (.int j) h = some (.int (i - j), h) := (rfl)
theorem mul_ii {i j : Int} (c : cMul i j = true) : mulG (.int i) (.int j) h = some (.int (i * j), h) := by unfold mulG; dsimp only; rw [if_pos c]
theorem mul_si {u : Str} {j : Int} (c : 1 < j ∧ j ≤ 1000 ∧ u.length ≤ 1000) : mulG (.str u) (.int j) h = some (.str (Txt.mul u j), h) := by unfold mulG; dsimp only; rw [if_pos c]
theorem mod_ii {i j : Int} (c : j ≠ 0) : modG (.int i) (.int j) h = some (.int (i.fmod j), h) := by unfold modG intG; dsimp only; rw [if_pos (decide_eq_true c)]
theorem fdiv_ii {i j : Int} (c : j ≠ 0 ∧ j.natAbs < 1073741824) : fdivG (.int i) (.int j) h = some (.int (i.fdiv j), h) := by unfold fdivG intG; dsimp only; rw [if_pos (decide_eq_true c)]
theorem pow_ii {i j : Int} (c : 0 ≤ j ∧ j ≤ 1000000 ∧ i.natAbs < 2 ^ 64) : powG (.int i) (.int j) h = some (.int (i ^ j.toNat), h) := by unfold powG intG; dsimp only; rw [if_pos (decide_eq_true c)]
theorem neg_i {i : Int} : negG (.int i) h = some (.int (-i), h) := (rfl)
theorem ord_ii {g f} {i j : Int} : ordG g f (.int i) (.int j) h = some (.bl (g i j), h) := (rfl)
theorem ord_ss {g f} {i j : Str} : ordG g f (.str i) (.str j) h = some (.bl (f i j), h) := (rfl)
theorem eq_ii {i j : Int} : eqG false (.int i) (.int j) h = some (.bl (decide (i = j)), h) := (rfl)
theorem ne_ii {i j : Int} : eqG true (.int i) (.int j) h = some (.bl (!decide (i = j)), h) := (rfl)
theorem eq_ss {i j : Str} : eqG false (.str i) (.str j) h = some (.bl (decide (i = j)), h) := (rfl)
theorem ne_ss {i j : Str} : eqG true (.str i) (.str j) h = some (.bl (!decide (i = j)), h) := (rfl)
theorem is_non {d : D} : isG false d .non h = some (.bl (isNon d), h) := (rfl)
theorem isn_non {d : D} : isG true d .non h = some (.bl (!isNon d), h) := (rfl)
theorem int_i {i : Int} : toIntG [.int i] h = some (.int i, h) := (rfl)
theorem len_s {u : Str} (c : u.length ≤ 1000000) : lenG [.str u] h = some (.int u.length, h) := by unfold lenG; dsimp only; rw [if_pos c]
theorem len_t {xs : List D} : lenG [.tup xs] h = some (.int xs.length, h) := (rfl)
theorem min_ii {i j : Int} : min2G [.int i, .int j] h = some (.int (if j < i then j else i), h) := (rfl)
theorem sl_s {u : Str} {lo hi : Option Int} (l : u.length ≤ 1000000) : slG (.str u) lo hi h = some (.str (cutS u lo hi), h) := by
  unfold slG; dsimp only; rw [if_pos l]
theorem in_c {c : Nat} {b : Str} : inG false (.str ⟨#[c]⟩) (.str b) h = some (.bl (decide (c ∈ b.cps.toList)), h) := (rfl)
theorem nin_c {c : Nat} {b : Str} : inG true (.str ⟨#[c]⟩) (.str b) h = some (.bl (!decide (c ∈ b.cps.toList)), h) := (rfl)
theorem split_s {u v : Str} (c : (v.length == 0) = false ∧ u.length ≤ 1000000) : splitG (.str u) [.str v] h = some (.ref h.length, h ++ [.lst ((Txt.split u v).map D.str)]) := by
  unfold splitG; dsimp only; rw [if_pos c]
theorem str1_ss {g : Str → Str → D} {u v : Str} : strG1 g (.str u) [.str v] h = some (g u v, h) := (rfl)
theorem find4_s {u v : Str} {i j : Int} : find4G (.str u) [.str v, .int i, .int j] h = some (.int (Txt.findIn u v i j), h) := (rfl)
theorem ty_str {u : Str} : tyB "str" (.str u) h = true := (rfl)
theorem ord_c {c : Nat} : toOrdG [.str ⟨#[c]⟩] h = some (.int c, h) := (rfl)
theorem iR1_ap : iR1 t s h = (t s h).bind itR1 := (rfl)
theorem itR1_i {j : Int} (c : -(2 ^ 62) ≤ j ∧ j < 2 ^ 62) : itR1 [.int j] h = .ok ((List.range j.toNat).map fun (i : Nat) => .int (0 + i), fun _ => True) h := by unfold itR1; dsimp only; rw [if_pos c]
theorem iS_ap : iS a s h = (a s h).bind itS := (rfl)
theorem itS_s {u : Str} : itS (.str u) h = .ok (u.cps.toList.map fun c => .str ⟨#[c]⟩, fun _ => True) h := (rfl)
theorem iT_ap : iT a s h = (a s h).bind itT := (rfl)
theorem itT_t {xs : List D} : itT (.tup xs) h = .ok (xs, fun _ => True) h := (rfl)
theorem iE_ap {k : Int} : iE k t s h = (t s h).bind (itE k) := (rfl)
def oD (x : Option D) (h : HP) : Option (D × HP) := x.map fun d => (d, h)
theorem oD_some : oD (some d) h = some (d, h) := (rfl)
def oLen (x : Option Ob) (h : HP) : Option (D × HP) := match x with
  | some (.lst xs) => some (.int xs.length, h)
  | some (.rdl xs) => some (.int xs.length, h)
  | _ => none
theorem len_r {i : Nat} : lenG [.ref i] h = oLen h[i]? h := by unfold lenG oLen; dsimp only; first | done | (rcases h[i]? with _ | o; rfl; cases o <;> rfl)
theorem oLen_l {xs : List D} : oLen (some (.lst xs)) h = some (.int xs.length, h) := (rfl)
theorem oLen_r {xs : List D} : oLen (some (.rdl xs)) h = some (.int xs.length, h) := (rfl)
def oKey (x : Option Key) (kvs : List (Key × D)) (h : HP) : Option (D × HP) := x.bind fun k => (getK kvs k).map fun d => (d, h)
theorem oKey_s {k : Key} {kvs : List (Key × D)} : oKey (some k) kvs h = oD (getK kvs k) h := (rfl)
def oItem (x : Option Ob) (y : D) (h : HP) : Option (D × HP) := match x with
  | some (.dic kvs) => oKey (keyD y) kvs h
  | some (.lst xs) => (match y with | .int j => oD (atI xs j) h | _ => none)
  | some (.rdl xs) => (match y with | .int j => oD (atI xs j) h | _ => none)
  | _ => none
theorem it_ref {i : Nat} {y : D} : itemG (.ref i) y h = oItem h[i]? y h := by
  unfold itemG oItem
  dsimp only
  cases e : h[i]? with
  | none =>
    unfold ixG
    cases y with
    | int j => dsimp only; rw [e]
    | _ => rfl
  | some o =>
    cases o with
    | dic kvs => rfl
    | lst xs =>
      unfold ixG
      cases y with
      | int j => dsimp only; rw [e]; rfl
      | _ => rfl
    | rdl xs =>
      unfold ixG
      cases y with
      | int j => dsimp only; rw [e]; rfl
      | _ => rfl
    | ins c fs =>
      unfold ixG
      cases y with
      | int j => dsimp only; rw [e]
      | _ => rfl
theorem oItem_d {kvs : List (Key × D)} {y : D} : oItem (some (.dic kvs)) y h = oKey (keyD y) kvs h := (rfl)
theorem oItem_l {xs : List D} {j : Int} : oItem (some (.lst xs)) (.int j) h = oD (atI xs j) h := (rfl)
theorem oItem_r {xs : List D} {j : Int} : oItem (some (.rdl xs)) (.int j) h = oD (atI xs j) h := (rfl)
theorem it_tup {xs : List D} {j : Int} : itemG (.tup xs) (.int j) h = oD (atI xs j) h := (rfl)
def oC (x : Option Nat) (h : HP) : Option (D × HP) := x.map fun c => (.str ⟨#[c]⟩, h)
theorem oC_some {c : Nat} : oC (some c) h = some (.str ⟨#[c]⟩, h) := (rfl)
theorem it_str {u : Str} {j : Int} (l : u.length ≤ 1000000) : itemG (.str u) (.int j) h = oC (atI u.cps.toList j) h := by
  unfold itemG ixG; dsimp only; rw [if_pos l]; rfl
theorem keyD_s {u : Str} : keyD (.str u) = some (.inr u) := (rfl)
theorem keyD_i {j : Int} : keyD (.int j) = some (.inl j) := (rfl)
def oApp (x : Option Ob) (i : Nat) (d : D) (h : HP) : Option (D × HP) := match x with
  | some (.lst xs) => if xs.length < 1000000 then some (.non, h.set i (.lst (xs ++ [d]))) else none
  | _ => none
theorem app_r {i : Nat} {d : D} : appendG (.ref i) [d] h = oApp h[i]? i d h := by unfold appendG oApp; dsimp only; first | done | (rcases h[i]? with _ | o; rfl; cases o <;> rfl)
theorem oApp_l {xs : List D} {i : Nat} (l : xs.length < 1000000) : oApp (some (.lst xs)) i d h = some (.non, h.set i (.lst (xs ++ [d]))) := by unfold oApp; dsimp only; rw [if_pos l]
def oExt (x y : Option Ob) (i : Nat) (h : HP) : Option (D × HP) := match x, y with
  | some (.lst xs), some (.lst ys) => if xs.length + ys.length ≤ 1000000 then some (.non, h.set i (.lst (xs ++ ys))) else none
  | _, _ => none
theorem ext_r {i j : Nat} : extendG (.ref i) [.ref j] h = oExt h[i]? h[j]? i h := by unfold extendG oExt; dsimp only; first | done | (rcases h[i]? with _ | o; rfl; cases o <;> first | rfl | (rcases h[j]? with _ | o; rfl; cases o <;> rfl))
theorem oExt_l {xs ys : List D} {i : Nat} (l : xs.length + ys.length ≤ 1000000) : oExt (some (.lst xs)) (some (.lst ys)) i h = some (.non, h.set i (.lst (xs ++ ys))) := by unfold oExt; dsimp only; rw [if_pos l]
def oTy (T : String) (x : Option Ob) : Bool := match x with
  | some (.lst _) => T == "list"
  | some (.rdl _) => T == "list"
  | some (.dic _) => T == "dict"
  | _ => false
theorem ty_ref {T : String} {i : Nat} : tyB T (.ref i) h = oTy T h[i]? := by unfold tyB oTy; dsimp only; first | done | (rcases h[i]? with _ | o; rfl; cases o <;> rfl)
theorem oTy_l {xs : List D} : oTy "list" (some (.lst xs)) = true := (rfl)
def oIsi (n : String) (x : Option Ob) (h : HP) : Option (D × HP) := match x with
  | some (.lst _) => (kitB "list" n).map fun b => (.bl b, h)
  | some (.dic _) => (kitB "dict" n).map fun b => (.bl b, h)
  | _ => none
theorem isi_ref {i : Nat} {n : String} : isiG [.ref i, .ty n] h = oIsi n h[i]? h := by unfold isiG oIsi; dsimp only; first | done | (rcases h[i]? with _ | o; rfl; cases o <;> rfl)
theorem oIsi_l {xs : List D} : oIsi "list" (some (.lst xs)) h = some (.bl true, h) := (rfl)
def oPutK (x : Option Key) (kvs : List (Key × D)) (i : Nat) (v : D) (h : HP) : Option HP := x.bind fun k => if kvs.length < 1000000 then some (h.set i (.dic (setK kvs k v))) else none
def oPut (x : Option Ob) (i : Nat) (y v : D) (h : HP) : Option HP := match x with
  | some (.dic kvs) => oPutK (keyD y) kvs i v h
  | _ => none
theorem put_ref {i : Nat} {y v : D} : putG (.ref i) y v h = oPut h[i]? i y v h := by unfold putG oPut; dsimp only; first | done | (rcases h[i]? with _ | o; rfl; cases o <;> rfl)
theorem oPut_d {kvs : List (Key × D)} {i : Nat} {y v : D} : oPut (some (.dic kvs)) i y v h = oPutK (keyD y) kvs i v h := (rfl)
theorem oPutK_s {k : Key} {kvs : List (Key × D)} {i : Nat} {v : D} (l : kvs.length < 1000000) : oPutK (some k) kvs i v h = some (h.set i (.dic (setK kvs k v))) := by
  show (if kvs.length < 1000000 then _ else _) = _; rw [if_pos l]
def oBls (x : Option (List Bool)) (h : HP) : Option (D × HP) := x.map fun bs => (.bl (bs.all id), h)
theorem oBls_s {bs : List Bool} : oBls (some bs) h = some (.bl (bs.all id), h) := (rfl)
def oAll (x : Option Ob) (h : HP) : Option (D × HP) := match x with
  | some (.lst xs) => oBls (boolsD xs) h
  | _ => none
theorem all_r {i : Nat} : allG [.ref i] h = oAll h[i]? h := by unfold allG oAll; dsimp only; first | done | (rcases h[i]? with _ | o; rfl; cases o <;> rfl)
theorem oAll_l {xs : List D} : oAll (some (.lst xs)) h = oBls (boolsD xs) h := (rfl)
def oTup (x : Option Ob) (h : HP) : Option (D × HP) := match x with
  | some (.lst xs) => some (.tup xs, h)
  | some (.rdl xs) => some (.tup xs, h)
  | _ => none
theorem tup_r {i : Nat} : toTupG [.ref i] h = oTup h[i]? h := by unfold toTupG oTup; dsimp only; first | done | (rcases h[i]? with _ | o; rfl; cases o <;> rfl)
theorem oTup_l {xs : List D} : oTup (some (.lst xs)) h = some (.tup xs, h) := (rfl)
def oEnum (k : Int) (i : Nat) (x : Option Ob) (h : HP) : R (List D × (HP → Prop)) := match x with
  | some (.lst xs) => .ok (enumDs k xs, fun h => h[i]? = some (.lst xs)) h
  | some (.rdl xs) => .ok (enumDs k xs, fun h => h[i]? = some (.rdl xs)) h
  | _ => .bad
theorem itE_r {k : Int} {i : Nat} : itE k [.ref i] h = oEnum k i h[i]? h := by unfold itE oEnum; dsimp only; first | done | (rcases h[i]? with _ | o; rfl; cases o <;> rfl)
theorem oEnum_l {k : Int} {i : Nat} {xs : List D} : oEnum k i (some (.lst xs)) h = .ok (enumDs k xs, fun h => h[i]? = some (.lst xs)) h := (rfl)
theorem getK_h {k : Key} {kvs : List (Key × D)} {v : D} : getK ((k, v) :: kvs) k = some v := by simp [getK, List.find?_cons]
theorem getK_t {k k' : Key} {kvs : List (Key × D)} {v : D} (n : decide (k' = k) = false) : getK ((k', v) :: kvs) k = getK kvs k := by simp [getK, List.find?_cons, n]
end
end PM
end
section
set_option Elab.async false
set_option linter.all false
set_option maxRecDepth 100000
set_option maxHeartbeats 4000000
namespace K00
open PySem L2 PM
def c_KEYWORDS : D := .tup [.str "event", .str "def", .str "watch", .str "number", .str "word", .str "implies", .str "or", .str "and", .str "since", .str "until", .str "not", .str "some", .str "all", .str "before", .str "next", .str "once", .str "held", .str "soon", .str "kept", .str "count", .str "sum", .str "least", .str "most", .str "of", .str "true", .str "false"]
def c_SIGNS : D := .tup [.str "(", .str ")", .str "[", .str "]", .str ",", .str ";", .str ".", .str "*", .str "=", .str "<", .str "<=", .str "+", .str "-"]
def c_LETTERS : D := .str "abcdefghijklmnopqrstuvwxyzABCDEFGHIJKLMNOPQRSTUVWXYZ"
def c_DIGITS : D := .str "0123456789"
def c_LARGEST_NUMBER : D := .int 1000000000000
def c_LARGEST_NUMBER_LENGTH : D := .int 13
def c_LONGEST_TEXT : D := .int 40
def c_PERCENT_SIGN : D := .int 37
def c_BACKSLASH : D := .int 92

/-! _law_mix -/
noncomputable def b_u_law_mix : MS := mSeq (mSet 2 (m2 modG (mB toIntG (mCons (m2 addG (m2 addG (m2 mulG (mVar 0) (mC (.int 48271))) (m2 mulG (mVar 1) (mC (.int 69621)))) (mC (.int 11))) (mNil))) (mC (.int 2147483647))))
  (mRet (m2 modG (m2 modG (mB toIntG (mCons (m2 addG (m2 addG (m2 addG (m2 mulG (mVar 2) (mVar 2)) (m2 mulG (mVar 0) (mC (.int 40692)))) (m2 mulG (mVar 1) (mC (.int 7)))) (mC (.int 3))) (mNil))) (mC (.int 1000003))) (mC (.int 1000))))
noncomputable def m_u_law_mix : List D → HP → R D := runDef 3 b_u_law_mix


/-! _law_stream -/
noncomputable def L_u_law_stream_2 : MS := mIfS (mAnd (mTest (m2 gtG (mVar 4) (mC (.int 0)))) (mTest (m2 ltG (mB lenG (mCons (mVar 2) (mNil))) (mVar 1)))) (mSeq (mDrop (mMeth "list" appendG (mVar 2) (mCons (m2 modG (mB toIntG (mCons (mVar 4) (mNil))) (mC (.int 1000))) (mNil))))
  (mSet 4 (m2 fdivG (mVar 4) (mC (.int 1000))))) (mNext)
noncomputable def L_u_law_stream_3 : MS := mIfS (mTest (m2 ltG (mB lenG (mCons (mVar 2) (mNil))) (mVar 1))) (mDrop (mMeth "list" appendG (mVar 2) (mCons (mCall m_u_law_mix (mCons (mVar 4) (mCons (m2 addG (m2 mulG (mC (.int 64)) (mVar 5)) (mVar 3)) (mNil)))) (mNil)))) (mNext)
noncomputable def L_u_law_stream_1 : MS := mSeq (mSet 4 (m2 itemG (mVar 0) (mVar 3)))
  (mIfS (mTest (m2 geG (mVar 4) (m2 powG (mC (.int 10)) (mC (.int 18))))) (mFor (iR1 (mCons (mC (.int 60)) (mNil))) (gN 5) L_u_law_stream_2) (mFor (iR1 (mCons (mC (.int 3)) (mNil))) (gN 5) L_u_law_stream_3))
noncomputable def b_u_law_stream : MS := mSeq (mSet 2 (mLst (mNil)))
  (mSeq (mFor (iR1 (mCons (mB min2G (mCons (mB lenG (mCons (mVar 0) (mNil))) (mCons (mC (.int 63)) (mNil)))) (mNil))) (gN 3) L_u_law_stream_1)
  (mRet (mDisp [(mC (.str "row"), mVar 2), (mC (.str "at"), mC (.int 0)), (mC (.str "seed"), mB lenG (mCons (mVar 2) (mNil)))])))
noncomputable def m_u_law_stream : List D → HP → R D := runDef 6 b_u_law_stream


/-! _law_pick -/
noncomputable def b_u_law_pick : MS := mSeq (mSet 2 (m2 itemG (mVar 0) (mC (.str "at"))))
  (mSeq (mPutD (m2 addG (mVar 2) (mC (.int 1))) (mVar 0) (mC (.str "at")))
  (mSeq (mSet 3 (mCall m_u_law_mix (mCons (m2 itemG (mVar 0) (mC (.str "seed"))) (mCons (mVar 2) (mNil)))))
  (mSeq (mIfS (mTest (m2 ltG (mVar 2) (mB lenG (mCons (m2 itemG (mVar 0) (mC (.str "row"))) (mNil))))) (mSet 3 (m2 itemG (m2 itemG (mVar 0) (mC (.str "row"))) (mVar 2))) (mNext))
  (mRet (m2 modG (mB toIntG (mCons (mVar 3) (mNil))) (mVar 1))))))
noncomputable def m_u_law_pick : List D → HP → R D := runDef 4 b_u_law_pick


/-! _law_keywords -/
noncomputable def b_u_law_keywords : MS := mSeq (mSet 0 (mLst (mCons (mC (.str "event")) (mCons (mC (.str "def")) (mCons (mC (.str "watch")) (mCons (mC (.str "number")) (mCons (mC (.str "word")) (mCons (mC (.str "implies")) (mCons (mC (.str "or")) (mCons (mC (.str "and")) (mCons (mC (.str "since")) (mCons (mC (.str "until")) (mCons (mC (.str "not")) (mCons (mC (.str "some")) (mCons (mC (.str "all")) (mNil))))))))))))))))
  (mRet (m2 addG (mVar 0) (mLst (mCons (mC (.str "before")) (mCons (mC (.str "next")) (mCons (mC (.str "once")) (mCons (mC (.str "held")) (mCons (mC (.str "soon")) (mCons (mC (.str "kept")) (mCons (mC (.str "count")) (mCons (mC (.str "sum")) (mCons (mC (.str "least")) (mCons (mC (.str "most")) (mCons (mC (.str "of")) (mCons (mC (.str "true")) (mCons (mC (.str "false")) (mNil)))))))))))))))))
noncomputable def m_u_law_keywords : List D → HP → R D := runDef 1 b_u_law_keywords


/-! _law_word -/
noncomputable def b_u_law_word : MS := mSeq (mSet 1 (mCall m_u_law_pick (mCons (mVar 0) (mCons (mC (.int 9)) (mNil)))))
  (mSeq (mIfS (mTest (m2 ltG (mVar 1) (mC (.int 2)))) (mSeq (mSet 2 (mLst (mCons (mC (.str "a")) (mCons (mC (.str "X1")) (mCons (mC (.str "go_")) (mCons (mC (.str "a_b")) (mCons (mC (.str "ofx")) (mCons (mC (.str "words")) (mCons (mC (.str "notx")) (mCons (mC (.str "sums")) (mCons (mC (.str "z9")) (mCons (mC (.str "And")) (mCons (mC (.str "or1")) (mCons (mC (.str "nexts")) (mCons (mC (.str "True")) (mNil))))))))))))))))
  (mRet (mTup (mCons (mC (.str "name")) (mCons (m2 itemG (mVar 2) (mCall m_u_law_pick (mCons (mVar 0) (mCons (mC (.int 13)) (mNil))))) (mNil)))))) (mNext))
  (mSeq (mIfS (mTest (m2 (eqG false) (mVar 1) (mC (.int 2)))) (mRet (mTup (mCons (mC (.str "number")) (mCons (m2 itemG (mLst (mCons (mC (.str "0")) (mCons (mC (.str "7")) (mCons (mC (.str "10")) (mCons (mC (.str "1000000000000")) (mCons (mC (.str "999999999999")) (mCons (mC (.str "12345")) (mCons (mC (.str "90")) (mNil))))))))) (mCall m_u_law_pick (mCons (mVar 0) (mCons (mC (.int 7)) (mNil))))) (mNil))))) (mNext))
  (mSeq (mIfS (mTest (m2 (eqG false) (mVar 1) (mC (.int 3)))) (mRet (mTup (mCons (mC (.str "text")) (mCons (m2 itemG (mLst (mCons (mC (.str "")) (mCons (mC (.str "a")) (mCons (mC (.str "# no")) (mCons (mC (.str "x y")) (mCons (mC (.str "12")) (mCons (mC (.str "not; (")) (mCons (mC (.str "~")) (mCons (m2 mulG (mC (.str "a")) (mC (.int 40))) (mNil)))))))))) (mCall m_u_law_pick (mCons (mVar 0) (mCons (mC (.int 8)) (mNil))))) (mNil))))) (mNext))
  (mSeq (mIfS (mTest (m2 ltG (mVar 1) (mC (.int 6)))) (mRet (mTup (mCons (mC (.str "keyword")) (mCons (m2 itemG (mCall m_u_law_keywords mNil) (mCall m_u_law_pick (mCons (mVar 0) (mCons (mC (.int 26)) (mNil))))) (mNil))))) (mNext))
  (mSeq (mIfS (mTest (m2 (eqG false) (mVar 1) (mC (.int 6)))) (mRet (mTup (mCons (mC (.str "sign")) (mCons (m2 itemG (mLst (mCons (mC (.str "=")) (mCons (mC (.str "<")) (mCons (mC (.str "<=")) (mNil))))) (mCall m_u_law_pick (mCons (mVar 0) (mCons (mC (.int 3)) (mNil))))) (mNil))))) (mNext))
  (mRet (mTup (mCons (mC (.str "sign")) (mCons (m2 itemG (mLst (mCons (mC (.str "(")) (mCons (mC (.str ")")) (mCons (mC (.str "[")) (mCons (mC (.str "]")) (mCons (mC (.str ",")) (mCons (mC (.str ";")) (mCons (mC (.str ".")) (mCons (mC (.str "*")) (mCons (mC (.str "+")) (mCons (mC (.str "-")) (mNil)))))))))))) (mCall m_u_law_pick (mCons (mVar 0) (mCons (mC (.int 10)) (mNil))))) (mNil))))))))))
noncomputable def m_u_law_word : List D → HP → R D := runDef 3 b_u_law_word


/-! _law_alone -/
noncomputable def b_u_law_alone : MS := mRet (mOrV (m2 (eqG false) (mVar 0) (mC (.str "text"))) (m2 (inG false) (mVar 1) (mTup (mCons (mC (.str "(")) (mCons (mC (.str ")")) (mCons (mC (.str "[")) (mCons (mC (.str "]")) (mCons (mC (.str ",")) (mCons (mC (.str ";")) (mCons (mC (.str ".")) (mCons (mC (.str "*")) (mCons (mC (.str "+")) (mCons (mC (.str "-")) (mNil))))))))))))))
noncomputable def m_u_law_alone : List D → HP → R D := runDef 2 b_u_law_alone


/-! _law_between -/
noncomputable def b_u_law_between : MS := mSeq (mSet 1 (m2 itemG (mLst (mCons (mC (.str " ")) (mCons (mC (.str "\n")) (mCons (mC (.str "  ")) (mCons (mC (.str "# a _ comment \" here!\n")) (mNil)))))) (mCall m_u_law_pick (mCons (mVar 0) (mCons (mC (.int 4)) (mNil))))))
  (mRet (m2 addG (mVar 1) (m2 itemG (mLst (mCons (mC (.str "")) (mCons (mC (.str "")) (mCons (mC (.str "")) (mCons (mC (.str "\n")) (mCons (mC (.str "#\n ")) (mCons (mC (.str "\n   ")) (mCons (mC (.str "#x\n\n")) (mNil))))))))) (mCall m_u_law_pick (mCons (mVar 0) (mCons (mC (.int 7)) (mNil)))))))
noncomputable def m_u_law_between : List D → HP → R D := runDef 2 b_u_law_between


/-! _is_allowed -/
noncomputable def b_u_is_allowed : MS := mRet (mAndV (mChain leG leG (mC (.str " ")) (mVar 0) (mC (.str "~"))) (m2 (inG true) (mB toOrdG (mCons (mVar 0) (mNil))) (mTup (mCons (mC c_PERCENT_SIGN) (mCons (mC c_BACKSLASH) (mNil))))))
noncomputable def m_u_is_allowed : List D → HP → R D := runDef 1 b_u_is_allowed


/-! end_of_text -/
noncomputable def b_end_of_text : MS := mSeq (mSet 2 (m2 addG (mVar 1) (mC (.int 1))))
  (mSeq (mSet 3 (mMeth "str" find4G (mVar 0) (mCons (mC (.str "\"")) (mCons (mVar 2) (mCons (m2 addG (m2 addG (mVar 2) (mC c_LONGEST_TEXT)) (mC (.int 1))) (mNil))))))
  (mSeq (mIfS (mTest (m2 ltG (mVar 3) (mC (.int 0)))) (mRet (mC .non)) (mNext))
  (mSeq (mIfS (mNot (mTest (mB allG (mCons (mLc (iS (mSl slG (mVar 0) (mPart (mVar 2)) (mPart (mVar 3)))) 4 (mYes) (mCall m_u_is_allowed (mCons (mVar 4) (mNil)))) (mNil))))) (mRet (mC .non)) (mNext))
  (mRet (m2 addG (mVar 3) (mC (.int 1)))))))
noncomputable def m_end_of_text : List D → HP → R D := runDef 5 b_end_of_text


/-! end_of_word -/
noncomputable def T_end_of_word_1 : MT := mAnd (mTest (m2 ltG (mVar 2) (mB lenG (mCons (mVar 0) (mNil))))) (mOr (mTest (m2 (inG false) (m2 itemG (mVar 0) (mVar 2)) (mC c_LETTERS))) (mOr (mTest (m2 (inG false) (m2 itemG (mVar 0) (mVar 2)) (mC c_DIGITS))) (mTest (m2 (eqG false) (m2 itemG (mVar 0) (mVar 2)) (mC (.str "_"))))))
noncomputable def L_end_of_word_1 : MS := mAug 2 iaddG (mC (.int 1))
noncomputable def b_end_of_word : MS := mSeq (mSet 2 (mVar 1))
  (mSeq (mWhile T_end_of_word_1 L_end_of_word_1)
  (mRet (mVar 2)))
noncomputable def m_end_of_word : List D → HP → R D := runDef 3 b_end_of_word


/-! is_number -/
noncomputable def b_is_number : MS := mSeq (mIfS (mNot (mTest (mB allG (mCons (mLc (iS (mVar 0)) 1 (mYes) (m2 (inG false) (mVar 1) (mC c_DIGITS))) (mNil))))) (mRet (mC (.bl false))) (mNext))
  (mSeq (mIfS (mTest (m2 (eqG false) (m2 itemG (mVar 0) (mC (.int 0))) (mC (.str "0")))) (mRet (m2 (eqG false) (mVar 0) (mC (.str "0")))) (mNext))
  (mRet (mAndV (m2 leG (mB lenG (mCons (mVar 0) (mNil))) (mC c_LARGEST_NUMBER_LENGTH)) (m2 leG (mB toIntG (mCons (mVar 0) (mNil))) (mC c_LARGEST_NUMBER)))))
noncomputable def m_is_number : List D → HP → R D := runDef 2 b_is_number


/-! _sign_at -/
noncomputable def L_u_sign_at_1 : MS := mSeq (mSet 3 (mSl slG (mVar 0) (mPart (mVar 1)) (mPart (m2 addG (mVar 1) (mVar 2)))))
  (mIfS (mTest (m2 (inG false) (mVar 3) (mC c_SIGNS))) (mRet (mVar 3)) (mNext))
noncomputable def b_u_sign_at : MS := mSeq (mFor (iT (mTup (mCons (mC (.int 2)) (mCons (mC (.int 1)) (mNil))))) (gN 2) L_u_sign_at_1)
  (mRet (mC .non))
noncomputable def m_u_sign_at : List D → HP → R D := runDef 4 b_u_sign_at


/-! _token_at -/
noncomputable def b_u_token_at : MS := mSeq (mSet 3 (m2 itemG (mVar 0) (mVar 2)))
  (mSeq (mIfS (mTest (m2 (eqG false) (mVar 3) (mC (.str "\"")))) (mSeq (mSet 4 (mCall m_end_of_text (mCons (mVar 0) (mCons (mVar 2) (mNil)))))
  (mSeq (mIfS (mTest (m2 (isG false) (mVar 4) (mC .non))) (mBad) (mNext))
  (mRet (mTup (mCons (mC (.str "text")) (mCons (mSl slG (mVar 0) (mPart (m2 addG (mVar 2) (mC (.int 1)))) (mPart (m2 subG (mVar 4) (mC (.int 1))))) (mCons (mVar 4) (mNil)))))))) (mNext))
  (mSeq (mIfS (mTest (m2 (inG false) (mVar 3) (mC c_DIGITS))) (mSeq (mSet 4 (mCall m_end_of_word (mCons (mVar 0) (mCons (mVar 2) (mNil)))))
  (mSeq (mIfS (mNot (mTest (mCall m_is_number (mCons (mSl slG (mVar 0) (mPart (mVar 2)) (mPart (mVar 4))) (mNil))))) (mBad) (mNext))
  (mRet (mTup (mCons (mC (.str "number")) (mCons (mSl slG (mVar 0) (mPart (mVar 2)) (mPart (mVar 4))) (mCons (mVar 4) (mNil)))))))) (mNext))
  (mSeq (mIfS (mTest (m2 (inG false) (mVar 3) (mC c_LETTERS))) (mSeq (mSet 4 (mCall m_end_of_word (mCons (mVar 0) (mCons (mVar 2) (mNil)))))
  (mSeq (mSet 5 (mSl slG (mVar 0) (mPart (mVar 2)) (mPart (mVar 4))))
  (mRet (mTup (mCons (mIfE (mTest (m2 (inG false) (mVar 5) (mC c_KEYWORDS))) (mC (.str "keyword")) (mC (.str "name"))) (mCons (mVar 5) (mCons (mVar 4) (mNil)))))))) (mNext))
  (mSeq (mSet 6 (mCall m_u_sign_at (mCons (mVar 0) (mCons (mVar 2) (mNil)))))
  (mSeq (mIfS (mTest (m2 (isG false) (mVar 6) (mC .non))) (mBad) (mNext))
  (mRet (mTup (mCons (mC (.str "sign")) (mCons (mVar 6) (mCons (m2 addG (mVar 2) (mB lenG (mCons (mVar 6) (mNil)))) (mNil)))))))))))
noncomputable def m_u_token_at : List D → HP → R D := runDef 7 b_u_token_at


/-! _tokens_of_row -/
noncomputable def T_u_tokens_of_row_1 : MT := mAnd (mTest (m2 ltG (mVar 3) (mB lenG (mCons (mVar 0) (mNil))))) (mTest (m2 (eqG true) (m2 itemG (mVar 0) (mVar 3)) (mC (.str "#"))))
noncomputable def L_u_tokens_of_row_1 : MS := mIfS (mTest (m2 (eqG false) (m2 itemG (mVar 0) (mVar 3)) (mC (.str " ")))) (mAug 3 iaddG (mC (.int 1))) (mSeq (mAsg (PM.gTup 3 (PM.gCons (gN 4) (PM.gCons (gN 5) (PM.gCons (gN 6) (PM.gNil))))) (mCall m_u_token_at (mCons (mVar 0) (mCons (mVar 1) (mCons (mVar 3) (mNil))))))
  (mSeq (mDrop (mMeth "list" appendG (mVar 2) (mCons (mTup (mCons (mVar 4) (mCons (mVar 5) (mCons (mVar 1) (mCons (m2 addG (mVar 3) (mC (.int 1))) (mNil)))))) (mNil))))
  (mSet 3 (mVar 6))))
noncomputable def b_u_tokens_of_row : MS := mSeq (mSet 2 (mLst (mNil)))
  (mSeq (mSet 3 (mC (.int 0)))
  (mSeq (mWhile T_u_tokens_of_row_1 L_u_tokens_of_row_1)
  (mRet (mVar 2))))
noncomputable def m_u_tokens_of_row : List D → HP → R D := runDef 7 b_u_tokens_of_row


/-! tokens -/
noncomputable def L_tokens_1 : MS := mDrop (mMeth "list" extendG (mVar 1) (mCons (mCall m_u_tokens_of_row (mCons (mVar 4) (mCons (mVar 3) (mNil)))) (mNil)))
noncomputable def b_tokens : MS := mSeq (mSet 1 (mLst (mNil)))
  (mSeq (mSet 2 (mMeth "str" splitG (mVar 0) (mCons (mC (.str "\n")) (mNil))))
  (mSeq (mFor (iE 1 (mCons (mVar 2) (mNil))) (PM.gTup 2 (PM.gCons (gN 3) (PM.gCons (gN 4) (PM.gNil)))) L_tokens_1)
  (mSeq (mDrop (mMeth "list" appendG (mVar 1) (mCons (mTup (mCons (mC (.str "end")) (mCons (mC (.str "")) (mCons (mB lenG (mCons (mVar 2) (mNil))) (mCons (m2 addG (mB lenG (mCons (m2 itemG (mVar 2) (m1 negG (mC (.int 1)))) (mNil))) (mC (.int 1))) (mNil)))))) (mNil))))
  (mRet (mVar 1)))))
noncomputable def m_tokens : List D → HP → R D := runDef 5 b_tokens


/-! law -/
noncomputable def L_law_1 : MS := mSeq (mAsg (PM.gTup 2 (PM.gCons (gN 6) (PM.gCons (gN 7) (PM.gNil)))) (mCall m_u_law_word (mCons (mVar 1) (mNil))))
  (mSeq (mIfS (mOr (mNot (mOr (mTest (mCall m_u_law_alone (mCons (m2 itemG (mVar 4) (mC (.int 0))) (mCons (m2 itemG (mVar 4) (mC (.int 1))) (mNil))))) (mTest (mCall m_u_law_alone (mCons (mVar 6) (mCons (mVar 7) (mNil))))))) (mTest (m2 (eqG false) (mCall m_u_law_pick (mCons (mVar 1) (mCons (mC (.int 3)) (mNil)))) (mC (.int 0))))) (mIfS (mTest (m2 gtG (mVar 5) (mC (.int 0)))) (mSet 2 (m2 addG (mVar 2) (mCall m_u_law_between (mCons (mVar 1) (mNil))))) (mNext)) (mNext))
  (mSeq (mDrop (mMeth "list" appendG (mVar 3) (mCons (mTup (mCons (mVar 6) (mCons (mVar 7) (mCons (m2 addG (mMeth "str" (strG1 fun a b => .int (Txt.count a b)) (mVar 2) (mCons (mC (.str "\n")) (mNil))) (mC (.int 1))) (mCons (m2 subG (mB lenG (mCons (mVar 2) (mNil))) (mMeth "str" (strG1 fun a b => .int (Txt.rfind a b)) (mVar 2) (mCons (mC (.str "\n")) (mNil)))) (mNil)))))) (mNil))))
  (mSeq (mIfS (mTest (m2 (eqG false) (mVar 6) (mC (.str "text")))) (mSet 2 (m2 addG (m2 addG (m2 addG (mVar 2) (mC (.str "\""))) (mVar 7)) (mC (.str "\"")))) (mSet 2 (m2 addG (mVar 2) (mVar 7))))
  (mSet 4 (mTup (mCons (mVar 6) (mCons (mVar 7) (mNil))))))))
noncomputable def b_law : MS := mSeq (mSet 1 (mCall m_u_law_stream (mCons (mVar 0) (mCons (mC (.int 300)) (mNil)))))
  (mSeq (mSet 2 (m2 itemG (mLst (mCons (mC (.str "")) (mCons (mC (.str "")) (mCons (mC (.str " ")) (mCons (mC (.str "\n")) (mCons (mC (.str "# begin\n  ")) (mNil))))))) (mCall m_u_law_pick (mCons (mVar 1) (mCons (mC (.int 5)) (mNil))))))
  (mSeq (mSet 3 (mLst (mNil)))
  (mSeq (mSet 4 (mTup (mCons (mC (.str "sign")) (mCons (mC (.str "(")) (mNil)))))
  (mSeq (mFor (iR1 (mCons (mB min2G (mCons (mC (.int 120)) (mCons (m2 addG (mC (.int 1)) (m2 fdivG (mB lenG (mCons (m2 itemG (mVar 1) (mC (.str "row"))) (mNil))) (mC (.int 3)))) (mNil)))) (mNil))) (gN 5) L_law_1)
  (mSeq (mSet 2 (m2 addG (mVar 2) (m2 itemG (mLst (mCons (mC (.str "")) (mCons (mC (.str " ")) (mCons (mC (.str "\n")) (mCons (mC (.str "\n  ")) (mCons (mC (.str " # the end")) (mNil))))))) (mCall m_u_law_pick (mCons (mVar 1) (mCons (mC (.int 5)) (mNil)))))))
  (mSeq (mDrop (mMeth "list" appendG (mVar 3) (mCons (mTup (mCons (mC (.str "end")) (mCons (mC (.str "")) (mCons (m2 addG (mMeth "str" (strG1 fun a b => .int (Txt.count a b)) (mVar 2) (mCons (mC (.str "\n")) (mNil))) (mC (.int 1))) (mCons (m2 subG (mB lenG (mCons (mVar 2) (mNil))) (mMeth "str" (strG1 fun a b => .int (Txt.rfind a b)) (mVar 2) (mCons (mC (.str "\n")) (mNil)))) (mNil)))))) (mNil))))
  (mSeq (mSet 8 (mCall m_tokens (mCons (mVar 2) (mNil))))
  (mSeq (mIfS (mOr (mNot (mTest (mB isiG (mCons (mVar 8) (mCons (mC (.ty "list")) (mNil)))))) (mTest (m2 (eqG true) (mVar 8) (mVar 3)))) (mRet (mC (.bl false))) (mNext))
  (mRet (mAndV (m2 (eqG false) (mC c_KEYWORDS) (mB toTupG (mCons (mCall m_u_law_keywords mNil) (mNil)))) (m2 (eqG false) (mCall m_tokens (mCons (mC (.str "")) (mNil))) (mLst (mCons (mTup (mCons (mC (.str "end")) (mCons (mC (.str "")) (mCons (mC (.int 1)) (mCons (mC (.int 1)) (mNil)))))) (mNil))))))))))))))
noncomputable def m_law : List D → HP → R D := runDef 9 b_law

end K00
end
section
set_option Elab.async false
set_option linter.all false
set_option maxRecDepth 100000
set_option maxHeartbeats 1000000
/-! texts as lists of numbers -/
namespace TX
open PySem L2 PM
abbrev S (l : List Nat) : Str := ⟨l.toArray⟩
theorem S_len (l : List Nat) : (S l).length = l.length := by simp [S, Str.length]
theorem S_list (l : List Nat) : (S l).cps.toList = l := rfl
theorem S_inj {a b : List Nat} : (S a = S b) = (a = b) := by
  apply propext
  constructor
  · intro h; have := congrArg (fun s : Str => s.cps.toList) h; exact this
  · intro h; rw [h]
theorem S_app (a b : List Nat) : S a ++ S b = S (a ++ b) := TL.ext_tl (by rw [TL.tl_append])
theorem S_of (s : Str) : ∃ l, s = S l := ⟨s.cps.toList, (TL.mk_tl s).symm⟩
theorem lit (s : String) : (s : Str) = S (s.toList.map Char.toNat) := TL.ext_tl (TL.tl_ofString s)
theorem at_nat {l p r : List Nat} {c : Nat} (e : l = p ++ c :: r) : atI (S l).cps.toList (p.length : Int) = some c := by
  refine atI_nat ?_
  rw [S_list, e, List.getElem?_append_right (Nat.le_refl _)]; simp
theorem cut_nat {l : List Nat} {a b : Nat} (ha : a ≤ l.length) : cutS (S l) (some (a : Int)) (some (b : Int)) = S ((l.drop a).take (b - a)) := by
  unfold cutS
  rw [HT.sIx_nat, HT.sIx_nat, S_len, S_list, Nat.min_eq_left ha]
  congr 1
  congr 1
  by_cases hb : b ≤ l.length
  · rw [Nat.min_eq_left hb]
  · rw [Nat.min_eq_right (by omega), List.take_of_length_le (by simp), List.take_of_length_le (by simp; omega)]
theorem cut_mid {l p w r : List Nat} (e : l = p ++ w ++ r) : cutS (S l) (some (p.length : Int)) (some ((p.length + w.length : Nat) : Int)) = S w := by
  subst e
  rw [cut_nat (by simp)]
  congr 1
  simp
/-- one sign found -/
theorem find_nat {l p u r : List Nat} {c : Nat} {hi : Nat} (e : l = p ++ u ++ c :: r) (hu : c ∉ u) (hhi : p.length + u.length < hi) :
    Txt.findIn (S l) (S [c]) (p.length : Int) (hi : Int) = ((p.length + u.length : Nat) : Int) := by
  have hlen : l.length = p.length + u.length + (r.length + 1) := by rw [e]; simp; omega
  have hf : PySem.StrLaws.At (S l) (S [c]) (min hi l.length) (p.length + u.length) := by
    have h1 := (PySem.StrLaws.subAt_one (S l) c (p.length + u.length)).mpr (by rw [S_list, e, List.getElem?_append_right (by simp)]; simp)
    exact ⟨by have h2 := h1.1; rw [S_len] at h2; show p.length + u.length + 1 ≤ _; omega, h1.2⟩
  have hn : ∀ i, p.length ≤ i → i < p.length + u.length → ¬ PySem.StrLaws.At (S l) (S [c]) (min hi l.length) i := by
    intro i h1 h2 h3
    have h4 := (PySem.StrLaws.subAt_one (S l) c i).mp ⟨by have := h3.1; rw [S_len]; exact Nat.le_trans this (Nat.min_le_right _ _), h3.2⟩
    rw [S_list, e, List.append_assoc, List.getElem?_append_right h1, List.getElem?_append_left (by omega)] at h4
    exact hu (List.mem_of_getElem? h4)
  have h1 : fromIndex (S l).length (p.length : Int) = p.length := by unfold fromIndex; rw [if_neg (by omega)]; omega
  have h2 : toIndexW (S l).length (hi : Int) = min hi l.length := by unfold toIndexW; rw [if_neg (by omega), S_len]; omega
  unfold Txt.findIn
  rw [h1, h2, PySem.StrLaws.occ_eq]
  rcases PySem.StrLaws.occ_first (S l) (S [c]) (min hi l.length) 1 (Nat.le_refl _) (List.range' p.length (min hi l.length + 1 - p.length)) p.length (fun i h => (List.mem_range'_1.mp h).1) with ⟨h0, h3⟩ | ⟨pre, a, post, e1, h0, ha, h3⟩
  · exact absurd hf (h3 _ (List.mem_range'_1.mpr ⟨by omega, by omega⟩))
  · have hin : a ∈ List.range' p.length (min hi l.length + 1 - p.length) := by rw [e1]; simp
    have ha1 := (List.mem_range'_1.mp hin).1
    have e2 : a = p.length + u.length := by
      by_cases hlt : a < p.length + u.length
      · exact absurd ha (hn a ha1 hlt)
      · by_cases hgt : p.length + u.length < a
        · have hmem : p.length + u.length ∈ pre := by
            have hm : p.length + u.length ∈ pre ++ a :: post := by rw [← e1]; exact List.mem_range'_1.mpr ⟨by omega, by have := (List.mem_range'_1.mp hin).2; omega⟩
            rcases List.mem_append.mp hm with hm | hm
            · exact hm
            · have hs : (pre ++ a :: post).Pairwise (· < ·) := by rw [← e1]; exact List.pairwise_lt_range'
              have hs2 := (List.pairwise_append.mp hs).2.1
              rcases List.mem_cons.mp hm with hm | hm
              · omega
              · have := (List.pairwise_cons.mp hs2).1 _ hm; omega
          exact absurd hf (h3 _ hmem)
        · omega
    have : ((forIn (List.range' p.length (min hi l.length + 1 - p.length)) ((#[] : Array Nat), p.length) (PySem.StrLaws.occBody (S l) (S [c]) (min hi l.length) 1)).run.fst.toList)[0]? = some a := by rw [Array.getElem?_toList]; exact h0
    cases hq : (forIn (List.range' p.length (min hi l.length + 1 - p.length)) ((#[] : Array Nat), p.length) (PySem.StrLaws.occBody (S l) (S [c]) (min hi l.length) 1)).run.fst.toList with
    | nil => rw [hq] at this; cases this
    | cons x xs =>
      rw [hq] at this
      cases this
      show (a : Int) = _
      rw [e2]
/-- a text in a tuple of texts -/
theorem flat_strs (ss : List Str) : flatDs (ss.map D.str) = some (ss.map V.str) := by
  induction ss with
  | nil => rfl
  | cons s ss ih => rw [List.map_cons, List.map_cons]; unfold flatDs; rw [ih]; rfl
theorem inG_t {s : Str} {ss : List Str} {h : HP} : inG false (.str s) (.tup (ss.map D.str)) h = some (.bl (decide (s ∈ ss)), h) := by
  have e : inV (.str s) (ss.map V.str) = decide (s ∈ ss) := by
    unfold inV
    induction ss with
    | nil => rfl
    | cons a ss ih =>
      rw [List.map_cons, List.any_cons, ih]
      show (a == s || _) = _
      by_cases c : a = s
      · simp [c]
      · have c' : ¬ s = a := fun h => c h.symm
        simp [c, c']
  have e2 : inB (.str s) (.tup (ss.map D.str)) h = some (inV (.str s) (ss.map V.str)) := by
    show (match flatD (D.str s), flatDs (ss.map D.str) with | some v, some vs => some (inV v vs) | _, _ => none) = _
    rw [flat_strs]; rfl
  unfold inG
  rw [e2, e]
  rfl
/-! positions -/
def jn : List Nat → List (List Nat) → List Nat
  | cur, [] => cur
  | cur, q :: r => cur ++ 10 :: jn q r
theorem jn_eq : ∀ (cur : List Nat) (ls : List (List Nat)), jn cur ls = TL.joinL [10] (cur :: ls)
  | _, [] => rfl
  | cur, q :: r => by show cur ++ 10 :: jn q r = cur ++ ([10] ++ TL.joinL [10] (q :: r)); rw [jn_eq q r]; rfl
theorem jn_app (a cur : List Nat) (ls : List (List Nat)) : a ++ jn cur ls = jn (a ++ cur) ls := by
  cases ls with
  | nil => rfl
  | cons q r => show a ++ (cur ++ _) = (a ++ cur) ++ _; rw [List.append_assoc]
theorem split_jn {cur : List Nat} {ls : List (List Nat)} (hp : ∀ p ∈ cur :: ls, 10 ∉ p) : Txt.split (S (jn cur ls)) ("\n" : Str) = (cur :: ls).map S := by
  have e : S (jn cur ls) = Txt.join ("\n" : Str) ((cur :: ls).map S) := by
    rw [TL.join_eq]
    refine TL.ext_tl ?_
    rw [TL.tl_join]
    show jn cur ls = _
    rw [jn_eq, List.map_map]
    have : (TL.tl ∘ S) = id := by funext l; rfl
    rw [this, List.map_id]
    rfl
  rw [e]
  exact TL.split_join (s := 10) (S := []) rfl (by rw [show ("\n" : Str) = S [10] from rfl]; simp) (by simp) (fun p hq => by
    obtain ⟨q, hq2, rfl⟩ := List.mem_map.mp hq
    exact hp q hq2)
def pos : Nat × Nat → List Nat → Nat × Nat
  | p, [] => p
  | p, c :: l => pos (if c = 10 then (p.1 + 1, 0) else (p.1, p.2 + 1)) l
theorem pos_app : ∀ (p : Nat × Nat) (a b : List Nat), pos p (a ++ b) = pos (pos p a) b
  | _, [], _ => rfl
  | p, c :: a, b => pos_app _ a b
theorem pos_free : ∀ (p : Nat × Nat) (a : List Nat), 10 ∉ a → pos p a = (p.1, p.2 + a.length)
  | _, [], _ => rfl
  | p, c :: a, h => by
    have hc : ¬ c = 10 := fun e => h (by rw [e]; exact List.mem_cons_self)
    show pos (if c = 10 then (p.1 + 1, 0) else (p.1, p.2 + 1)) a = _
    rw [if_neg hc, pos_free _ a (fun e => h (List.mem_cons_of_mem _ e)), List.length_cons]
    show (p.1, p.2 + 1 + a.length) = _
    rw [Nat.add_assoc, Nat.add_comm 1]
theorem pos_row : ∀ (p : Nat × Nat) (a : List Nat), (pos p a).1 = p.1 + a.count 10
  | _, [] => rfl
  | p, c :: a => by
    show (pos (if c = 10 then (p.1 + 1, 0) else (p.1, p.2 + 1)) a).1 = _
    rw [pos_row, List.count_cons]
    by_cases h : c = 10
    · rw [if_pos h]; simp [h]; omega
    · rw [if_neg h]; simp [h]
theorem last_cut : ∀ l : List Nat, 10 ∉ l ∨ ∃ a b, l = a ++ 10 :: b ∧ 10 ∉ b
  | [] => .inl (by simp)
  | c :: l => by
    rcases last_cut l with h | ⟨a, b, e, h⟩
    · by_cases hc : c = 10
      · exact .inr ⟨[], l, by rw [hc]; rfl, h⟩
      · exact .inl fun hm => by rcases List.mem_cons.mp hm with h1 | h1; exact hc h1.symm; exact h h1
    · exact .inr ⟨c :: a, b, by rw [e]; rfl, h⟩
theorem rfind_nl (l : List Nat) : (l.length : Int) - Txt.rfind (S l) ("\n" : Str) = (((pos (1, 0) l).2 + 1 : Nat) : Int) := by
  show (l.length : Int) - Txt.rfind (S l) (S [10]) = _
  have at' : ∀ i, PySem.StrLaws.At (S l) (S [10]) (S l).length i ↔ l[i]? = some 10 := fun i => PySem.StrLaws.subAt_one (S l) 10 i
  unfold Txt.rfind
  rcases last_cut l with h | ⟨a, b, e, h⟩
  · rcases PySem.StrLaws.last_spec (S l) (S [10]) with ⟨h1, _⟩ | ⟨i, _, h2, _⟩
    · rw [h1, pos_free _ _ h]; show (l.length : Int) - (-1) = _; omega
    · exact absurd (List.mem_of_getElem? ((at' i).mp h2)) h
  · have ha : PySem.StrLaws.At (S l) (S [10]) (S l).length a.length := (at' _).mpr (by rw [e, List.getElem?_append_right (Nat.le_refl _)]; simp)
    rcases PySem.StrLaws.last_spec (S l) (S [10]) with ⟨_, h2⟩ | ⟨i, h1, h2, h3⟩
    · exact absurd ha (h2 _)
    · have hi : i = a.length := by
        by_cases h4 : i < a.length
        · exact absurd ha (h3 _ h4)
        · by_cases h5 : a.length < i
          · have h6 := (at' i).mp h2
            rw [e, List.getElem?_append_right (by omega)] at h6
            have h7 : i - a.length = (i - a.length - 1) + 1 := by omega
            rw [h7, List.getElem?_cons_succ] at h6
            exact absurd (List.mem_of_getElem? h6) h
          · omega
      rw [h1]
      have e2 : pos (1, 0) l = pos ((pos (1, 0) a).1 + 1, 0) b := by rw [e, pos_app]; rfl
      rw [e2, pos_free _ _ h, hi]
      show (l.length : Int) - (a.length : Int) = _
      rw [e]
      simp
      omega
theorem count_nl (l : List Nat) : Txt.count (S l) ("\n" : Str) = ((l.count 10 : Nat) : Int) := by
  show Txt.count (S l) (S [10]) = _
  rw [PyProof.Rows.count_is]
  show PyProof.Rows.cnt 10 l = _
  induction l with
  | nil => rfl
  | cons a l ih => rw [PyProof.Rows.cnt_cons, ih, List.count_cons]; by_cases c : a = 10 <;> simp [c] <;> omega
end TX
end
section
set_option Elab.async false
set_option linter.all false
set_option maxRecDepth 100000
set_option maxHeartbeats 1000000
namespace K00
open PySem L2 PM
local macro_rules | `(tactic| walk_at "pm") => `(tactic| simp only [bind_ok, toS_ok, seq_nx, seq_rt, seq_bk, seq_ct, seq_exc, bind_exc, toS_exc, mSeq_ap, mNext_ap, mSet_ap, kSet_ap, mAsg_ap, kAsg_ap, ofS_some, gN_ap, gTup_ap, gCons_ap, gNil_ap, mDrop_ap, kDrop_ap, mRet_ap, mRetN_ap, mIfS_ap, kIf_t, kIf_f, mBreak_ap, mCont_ap, mBad_ap, mAug_ap, kAug_ap, mVar_ap, mC_ap, m1_ap, k1_ap, m2_ap, k2_ap, k2'_ap, ofO_some, mNil_ap, mCons_ap, kC_ap, kC'_ap, mCall_ap, mB_ap, kB_ap, mMeth_ap, kM_ap, kM'_ap, mTest_ap, kBl_ap, mNot_ap, kNot_ap, mAnd_ap, kAnd_t, kAnd_f, mOr_ap, kOr_t, kOr_f, mIfE_ap, kIfE_t, kIfE_f, mAndV_ap, kAndV_t, kAndV_f, mOrV_ap, kOrV_t, kOrV_f, mNotV_ap, kNotV_ap, mTup_ap, kTup_ap, mLst_ap, kLst_ap, mNoPart_ap, mPart_ap, kInt_ap, mSl_ap, kSl1_ap, kSl2_ap, kSl3_ap, mChain_ap, kCh0_ap, kCh1_ap, kCh2_t, kCh2_f, kCh3_ap, mPutD_ap, kP1_ap, kP2_ap, kP3_ap, runDef_ap, fin_nx, fin_rt, fin_exc, mYes_ap, add_ii, iadd_ii, add_ss, sub_ii, mul_ii, mul_si, mod_ii, fdiv_ii, pow_ii, neg_i, ord_ii, ord_ss, eq_ii, ne_ii, eq_ss, ne_ss, is_non, isn_non, int_i, len_s, len_t, min_ii, sl_s, in_c, nin_c, split_s, str1_ss, find4_s, ty_str, ord_c, iR1_ap, itR1_i, iS_ap, itS_s, iT_ap, itT_t, iE_ap, oD_some, len_r, oLen_l, oLen_r, oKey_s, it_ref, oItem_d, oItem_l, oItem_r, it_tup, oC_some, it_str, keyD_s, keyD_i, app_r, oApp_l, ext_r, oExt_l, ty_ref, oTy_l, isi_ref, oIsi_l, put_ref, oPut_d, oPutK_s, oBls_s, all_r, oAll_l, tup_r, oTup_l, itE_r, oEnum_l, List.map_cons, List.map_nil, List.length_cons, List.length_nil, List.replicate, List.cons_append, List.nil_append, List.set_cons_zero, List.set_cons_succ, List.getElem?_cons_zero, List.getElem?_cons_succ, Nat.reduceSub, Nat.reduceAdd, Nat.reduceLeDiff, Nat.reduceLT,  cond_true, cond_false, if_true, if_false, ite_true, ite_false, Bool.false_eq_true, reduceIte, Nat.zero_add, Option.bind_some, ne_eq, Int.reduceEq, not_false_eq_true, not_true_eq_false, decide_true, decide_false, Bool.not_true, Bool.not_false, *])

def lowF (c k : Int) : Int := (c * 48271 + k * 69621 + 11).fmod 2147483647
def mixF (c k : Int) : Int := ((lowF c k * lowF c k + c * 40692 + k * 7 + 3).fmod 1000003).fmod 1000
theorem fmod_range (a b : Int) (h : 0 < b) : 0 ≤ a.fmod b ∧ a.fmod b < b := ⟨Int.fmod_nonneg_of_pos a h, Int.fmod_lt_of_pos a h⟩
theorem mix_ok (c k : Int) (h : HP) : m_u_law_mix [.int c, .int k] h = .ok (.int (mixF c k)) h := by
  unfold m_u_law_mix b_u_law_mix
  have e1 : cMul c 48271 = true := cMul_r (by omega)
  have e2 : cMul k 69621 = true := cMul_r (by omega)
  have e3 : cMul c 40692 = true := cMul_r (by omega)
  have e4 : cMul k 7 = true := cMul_r (by omega)
  have e5 : cMul (lowF c k) (lowF c k) = true := cMul_r (by
    have := fmod_range (c * 48271 + k * 69621 + 11) 2147483647 (by omega)
    unfold lowF; omega)
  unfold lowF at e5
  walk_at "pm"
  rfl

/-! the draws -/
/-- the draws' dict at i, its row at j -/
structure St (h : HP) (i j : Nat) (row : List Int) (n : Nat) : Prop where
  d : h[i]? = some (.dic [(.inr "row", .ref j), (.inr "at", .int n), (.inr "seed", .int row.length)])
  r : h[j]? = some (.lst (row.map D.int))
  z : row.length ≤ 1000
/-- all but i is as it was -/
structure Fr (i : Nat) (h h' : HP) : Prop where
  len : h.length ≤ h'.length
  at' : ∀ (k : Nat) (o : Ob), k ≠ i → h[k]? = some o → h'[k]? = some o
theorem Fr.refl (i : Nat) (h : HP) : Fr i h h := ⟨Nat.le_refl _, fun _ _ _ e => e⟩
theorem Fr.trans {i : Nat} {a b c : HP} (x : Fr i a b) (y : Fr i b c) : Fr i a c := ⟨Nat.le_trans x.len y.len, fun k o n e => y.at' k o n (x.at' k o n e)⟩
theorem Fr.app (i : Nat) (h l : HP) : Fr i h (h ++ l) := ⟨by simp, fun k o _ e => by
  have hk : k < h.length := (List.getElem?_eq_some_iff.mp e).1
  rw [List.getElem?_append_left hk]; exact e⟩
theorem Fr.set (i : Nat) (h : HP) (o : Ob) : Fr i h (h.set i o) := ⟨by simp, fun k o' n e => by rw [List.getElem?_set_ne (Ne.symm n)]; exact e⟩
theorem get_lt {α : Type} {l : List α} {i : Nat} {x : α} (e : l[i]? = some x) : i < l.length := (List.getElem?_eq_some_iff.mp e).1
theorem St.app {h : HP} {i j : Nat} {row : List Int} {n : Nat} (s : St h i j row n) (l : HP) : St (h ++ l) i j row n :=
  ⟨by rw [List.getElem?_append_left (get_lt s.d)]; exact s.d, by rw [List.getElem?_append_left (get_lt s.r)]; exact s.r, s.z⟩
theorem St.ne {h : HP} {i j : Nat} {row : List Int} {n : Nat} (s : St h i j row n) : j ≠ i := fun e => by
  have := s.r; rw [e, s.d] at this; cases this
def pkF (row : List Int) (n : Nat) : Int := if n < row.length then row.getD n 0 else mixF row.length n
theorem pick_ok {h : HP} {i j : Nat} {row : List Int} {n : Nat} (s : St h i j row n) {m : Int} (hm : m ≠ 0) :
    ∃ h', m_u_law_pick [.ref i, .int m] h = .ok (.int ((pkF row n).fmod m)) h' ∧ St h' i j row (n + 1) ∧ Fr i h h' ∧ h'.length = h.length := by
  obtain ⟨sd, sr, sz⟩ := s
  have hij : j ≠ i := St.ne ⟨sd, sr, sz⟩
  have g1 : getK [((.inr "row" : Key), D.ref j), (.inr "at", .int n), (.inr "seed", .int row.length)] (.inr "at") = some (.int n) := rfl
  have k1 : keyD (.str "at") = some (.inr "at") := rfl
  have k2 : keyD (.str "seed") = some (.inr "seed") := rfl
  have k3 : keyD (.str "row") = some (.inr "row") := rfl
  have e1 : setK [((.inr "row" : Key), D.ref j), (.inr "at", .int n), (.inr "seed", .int row.length)] (.inr "at") (.int (n + 1)) = [(.inr "row", .ref j), (.inr "at", .int (n + 1)), (.inr "seed", .int row.length)] := rfl
  have s2 : (h.set i (.dic [((.inr "row" : Key), D.ref j), (.inr "at", .int (n + 1)), (.inr "seed", .int row.length)]))[i]? = some (.dic [(.inr "row", .ref j), (.inr "at", .int (n + 1)), (.inr "seed", .int row.length)]) := List.getElem?_set_self (get_lt sd)
  have r2 : (h.set i (.dic [((.inr "row" : Key), D.ref j), (.inr "at", .int (n + 1)), (.inr "seed", .int row.length)]))[j]? = some (.lst (row.map D.int)) := by rw [List.getElem?_set_ne (Ne.symm hij)]; exact sr
  have g2 : getK [((.inr "row" : Key), D.ref j), (.inr "at", .int (n + 1)), (.inr "seed", .int row.length)] (.inr "seed") = some (.int row.length) := rfl
  have g3 : getK [((.inr "row" : Key), D.ref j), (.inr "at", .int (n + 1)), (.inr "seed", .int row.length)] (.inr "row") = some (.ref j) := rfl
  refine ⟨h.set i (.dic [((.inr "row" : Key), D.ref j), (.inr "at", .int (n + 1)), (.inr "seed", .int row.length)]), ?_, ⟨s2, r2, sz⟩, Fr.set _ _ _, by simp⟩
  unfold m_u_law_pick b_u_law_pick
  have mx := mix_ok row.length n
  have hl : (row.map D.int).length = row.length := by simp
  by_cases c : n < row.length
  · have c' : ((n : Int) < (row.length : Int)) = True := by simp; omega
    have ga : atI (row.map D.int) (n : Int) = some (.int (row.getD n 0)) := by
      refine atI_nat ?_
      rw [List.getElem?_map, List.getElem?_eq_getElem c, List.getD_eq_getElem?_getD, List.getElem?_eq_getElem c]; rfl
    walk_at "pm"
    unfold pkF; rw [if_pos c]
  · have c' : ((n : Int) < (row.length : Int)) = False := by simp; omega
    walk_at "pm"
    unfold pkF; rw [if_neg c]
end K00
end
section
set_option Elab.async false
set_option linter.all false
set_option maxRecDepth 100000
set_option maxHeartbeats 1000000
namespace K00
open PySem L2 PM TX
local macro_rules | `(tactic| walk_at "pm") => `(tactic| simp only [bind_ok, toS_ok, seq_nx, seq_rt, seq_bk, seq_ct, seq_exc, bind_exc, toS_exc, mSeq_ap, mNext_ap, mSet_ap, kSet_ap, mAsg_ap, kAsg_ap, ofS_some, gN_ap, gTup_ap, gCons_ap, gNil_ap, mDrop_ap, kDrop_ap, mRet_ap, mRetN_ap, mIfS_ap, kIf_t, kIf_f, mBreak_ap, mCont_ap, mBad_ap, mAug_ap, kAug_ap, mVar_ap, mC_ap, m1_ap, k1_ap, m2_ap, k2_ap, k2'_ap, ofO_some, mNil_ap, mCons_ap, kC_ap, kC'_ap, mCall_ap, mB_ap, kB_ap, mMeth_ap, kM_ap, kM'_ap, mTest_ap, kBl_ap, mNot_ap, kNot_ap, mAnd_ap, kAnd_t, kAnd_f, mOr_ap, kOr_t, kOr_f, mIfE_ap, kIfE_t, kIfE_f, mAndV_ap, kAndV_t, kAndV_f, mOrV_ap, kOrV_t, kOrV_f, mNotV_ap, kNotV_ap, mTup_ap, kTup_ap, mLst_ap, kLst_ap, mNoPart_ap, mPart_ap, kInt_ap, mSl_ap, kSl1_ap, kSl2_ap, kSl3_ap, mChain_ap, kCh0_ap, kCh1_ap, kCh2_t, kCh2_f, kCh3_ap, mPutD_ap, kP1_ap, kP2_ap, kP3_ap, runDef_ap, fin_nx, fin_rt, fin_exc, mYes_ap, add_ii, iadd_ii, add_ss, sub_ii, mul_ii, mul_si, mod_ii, fdiv_ii, pow_ii, neg_i, ord_ii, ord_ss, eq_ii, ne_ii, eq_ss, ne_ss, is_non, isn_non, int_i, len_s, len_t, min_ii, sl_s, in_c, nin_c, split_s, str1_ss, find4_s, ty_str, ord_c, iR1_ap, itR1_i, iS_ap, itS_s, iT_ap, itT_t, iE_ap, oD_some, len_r, oLen_l, oLen_r, oKey_s, it_ref, oItem_d, oItem_l, oItem_r, it_tup, oC_some, it_str, keyD_s, keyD_i, app_r, oApp_l, ext_r, oExt_l, ty_ref, oTy_l, isi_ref, oIsi_l, put_ref, oPut_d, oPutK_s, oBls_s, all_r, oAll_l, tup_r, oTup_l, itE_r, oEnum_l, List.map_cons, List.map_nil, List.length_cons, List.length_nil, List.replicate, List.cons_append, List.nil_append, List.set_cons_zero, List.set_cons_succ, List.getElem?_cons_zero, List.getElem?_cons_succ, Nat.reduceSub, Nat.reduceAdd, Nat.reduceLeDiff, Nat.reduceLT,  cond_true, cond_false, if_true, if_false, ite_true, ite_false, Bool.false_eq_true, reduceIte, Nat.zero_add, Option.bind_some, ne_eq, Int.reduceEq, not_false_eq_true, not_true_eq_false, decide_true, decide_false, Bool.not_true, Bool.not_false, *])

def LET : List Nat := ("abcdefghijklmnopqrstuvwxyzABCDEFGHIJKLMNOPQRSTUVWXYZ" : Str).cps.toList
def DIG : List Nat := ("0123456789" : Str).cps.toList
def isWC (c : Nat) : Bool := decide (c ∈ LET) || (decide (c ∈ DIG) || decide (c = 95))
theorem in_let {c : Nat} {h : HP} : inG false (.str ⟨#[c]⟩) c_LETTERS h = some (.bl (decide (c ∈ LET)), h) := (rfl)
theorem in_dig {c : Nat} {h : HP} : inG false (.str ⟨#[c]⟩) c_DIGITS h = some (.bl (decide (c ∈ DIG)), h) := (rfl)
theorem one_eq (c : Nat) (s : Str) (d : Nat) (e : s = S [d]) : decide ((⟨#[c]⟩ : Str) = s) = decide (c = d) := by
  rw [e]
  have : ((⟨#[c]⟩ : Str) = S [d]) = (c = d) := by
    apply propext
    constructor
    · intro h; have := congrArg (fun s : Str => s.cps.toList) h; simpa using this
    · intro h; rw [h]
  simp only [this]
theorem lt_app {l p r : List Nat} {c : Nat} (e : l = p ++ c :: r) : ((p.length : Int) < ((S l).length : Int)) = True := by
  rw [S_len, e]; simp; omega
theorem T_eow {l p r : List Nat} {c : Nat} {x : D} {h : HP} (e : l = p ++ c :: r) (hl : l.length ≤ 1000000) :
    T_end_of_word_1 [some (.str (S l)), some x, some (.int p.length)] h = .ok (isWC c) h := by
  unfold T_end_of_word_1 isWC
  have ha := at_nat e
  have hs : (S l).length ≤ 1000000 := by rw [S_len]; exact hl
  have c1 := lt_app e
  have c2 := one_eq c "_" 95 rfl
  have i1 := fun h => @in_let c h
  have i2 := fun h => @in_dig c h
  clear e
  cases e1 : decide (c ∈ LET) <;> cases e2 : decide (c ∈ DIG) <;> cases e3 : decide (c = 95) <;> walk_at "pm" <;> rfl
theorem T_eow0 {l : List Nat} {x : D} {h : HP} {n : Nat} (hn : n = l.length) (hl : l.length ≤ 1000000) :
    T_end_of_word_1 [some (.str (S l)), some x, some (.int n)] h = .ok false h := by
  unfold T_end_of_word_1
  have hs : (S l).length ≤ 1000000 := by rw [S_len]; exact hl
  have c1 : ((n : Int) < ((S l).length : Int)) = False := by rw [S_len, hn]; simp
  clear hn
  walk_at "pm"
def hdW (r : List Nat) : Bool := match r with | [] => true | c :: _ => !isWC c
theorem eow_loop {l : List Nat} {x : D} {h : HP} (hl : l.length ≤ 1000000) {r : List Nat} (hr : hdW r = true) : ∀ (w p : List Nat) (n : Nat), l = p ++ w ++ r → (∀ c ∈ w, isWC c = true) → w.length < n →
    mWhileN n T_end_of_word_1 L_end_of_word_1 [some (.str (S l)), some x, some (.int p.length)] h = .nx [some (.str (S l)), some x, some (.int ((p.length + w.length : Nat) : Int))] h
  | [], p, n + 1, e, _, _ => by
    rw [List.append_nil] at e
    refine wh_f ?_
    cases r with
    | nil => exact T_eow0 (by rw [e]; simp) hl
    | cons c r =>
      rw [T_eow e hl]
      have : isWC c = false := by simpa [hdW] using hr
      rw [this]
  | c :: w, p, n + 1, e, hw, hn => by
    have e' : l = p ++ c :: (w ++ r) := by rw [e]; simp
    have t := T_eow (x := x) (h := h) e' hl
    rw [hw c List.mem_cons_self] at t
    rw [wh_nx (s2 := [some (.str (S l)), some x, some (.int ((p ++ [c]).length : Int))]) (h2 := h) t (.inl ?_)]
    · rw [eow_loop hl hr w (p ++ [c]) n (by rw [e]; simp) (fun d hd => hw d (List.mem_cons_of_mem _ hd)) (by simp at hn; omega)]
      congr 5
      simp; omega
    · unfold L_end_of_word_1
      have : ((p ++ [c]).length : Int) = (p.length : Int) + 1 := by simp
      rw [this]
      walk_at "pm"
theorem eow_ok {l p w r : List Nat} {h : HP} (e : l = p ++ w ++ r) (hw : ∀ c ∈ w, isWC c = true) (hr : hdW r = true) (hl : l.length ≤ 1000000) :
    m_end_of_word [.str (S l), .int p.length] h = .ok (.int ((p.length + w.length : Nat) : Int)) h := by
  unfold m_end_of_word b_end_of_word
  have t : mWhile T_end_of_word_1 L_end_of_word_1 [some (.str (S l)), some (.int p.length), some (.int p.length)] h = .nx [some (.str (S l)), some (.int p.length), some (.int ((p.length + w.length : Nat) : Int))] h := by
    rw [mWhile_eq]
    refine eow_loop hl hr w p wN e hw ?_
    have : w.length ≤ l.length := by rw [e]; simp; omega
    unfold wN; omega
  clear e
  walk_at "pm"
/-! comprehensions over a text -/
theorem boolsD_rep : ∀ n : Nat, boolsD (List.replicate n (.bl true)) = some (List.replicate n true)
  | 0 => rfl
  | n + 1 => by rw [List.replicate_succ, List.replicate_succ]; unfold boolsD; rw [boolsD_rep n]; rfl
theorem all_rep : ∀ n : Nat, (List.replicate n true).all id = true
  | 0 => rfl
  | n + 1 => by rw [List.replicate_succ, List.all_cons, all_rep n]; rfl
theorem lc_chars {el : ME} {i : Nat} {s : SD} {hh : HP} {w : List Nat} (hl : w.length ≤ 1000000) (he : ∀ c ∈ w, ∀ acc, el (s.set i (some (.str ⟨#[c]⟩))) (hh ++ [.lst acc]) = .ok (.bl true) (hh ++ [.lst acc])) :
    lcLoop (fun _ => True) i mYes el hh.length (w.map fun c => .str ⟨#[c]⟩) s (hh ++ [.lst []]) = .ok (.ref hh.length) (hh ++ [.lst (List.replicate w.length (.bl true))]) := by
  rw [lc_pure (f := fun _ => .bl true) (fun _ => trivial) (fun d hd acc => by
    obtain ⟨c, hc, rfl⟩ := List.mem_map.mp hd
    exact he c hc acc) [] (by simpa using hl)]
  congr 5
  rw [List.nil_append, List.map_map]
  clear he hl
  induction w with
  | nil => rfl
  | cons c w ih => rw [List.map_cons, ih]; rfl
theorem get_new {h : HP} {o : Ob} {g : HP} : (h ++ o :: g)[h.length]? = some o := by rw [List.getElem?_append_right (Nat.le_refl _)]; simp
theorem set_new {h : HP} {o o' : Ob} {g : HP} : (h ++ o :: g).set h.length o' = h ++ o' :: g := by rw [List.set_append_right _ _ (Nat.le_refl _)]; simp
theorem allG_rep {h : HP} {n : Nat} : allG [.ref h.length] (h ++ [.lst (List.replicate n (.bl true))]) = some (.bl true, h ++ [.lst (List.replicate n (.bl true))]) := by
  rw [all_r, get_new, oAll_l, boolsD_rep, oBls_s, all_rep]
/-! numbers -/
def numOk (w : List Nat) : Bool := match w with
  | [] => false
  | c :: r => if c = 48 then decide (r = []) else decide (w.length ≤ 13) && (match PySem.intText? (S w) with | some n => decide (n ≤ 1000000000000) | none => false)
theorem all_q (n : Nat) : ∃ q bs, q = List.replicate n (D.bl true) ∧ boolsD q = some bs ∧ bs.all id = true := ⟨_, _, rfl, boolsD_rep n, all_rep n⟩
theorem dig_all {w : List Nat} {h : HP} {q : List D} (hq : q = List.replicate w.length (D.bl true)) (hw : ∀ c ∈ w, c ∈ DIG) (hl : w.length ≤ 1000000) :
    mLc (iS (mVar 0)) 1 mYes (m2 (inG false) (mVar 1) (mC c_DIGITS)) [some (.str (S w)), none] h = .ok (.ref h.length) (h ++ [.lst q]) := by
  rw [mLc_ok (xs := w.map fun c => .str ⟨#[c]⟩) (G := fun _ => True) (h' := h) (by clear hq; walk_at "pm"), hq]
  refine lc_chars hl fun c hc acc => ?_
  have i2 := fun h => @in_dig c h
  have e2 : decide (c ∈ DIG) = true := decide_eq_true (hw c hc)
  clear hq
  walk_at "pm"
theorem number_ok {w : List Nat} {h : HP} (hw : ∀ c ∈ w, c ∈ DIG) (hn : numOk w = true) (hl : w.length ≤ 1000000) :
    ∃ g, m_is_number [.str (S w)] h = .ok (.bl true) (h ++ g) := by
  obtain ⟨q, bs, hq, q1, q2⟩ := all_q w.length
  refine ⟨[.lst q], ?_⟩
  unfold m_is_number b_is_number
  have da := fun h => @dig_all w h q hq hw hl
  have gn := fun h => @get_new h (.lst q) []
  clear hq
  cases w with
  | nil => cases hn
  | cons c r =>
    have ha := at_nat (l := c :: r) (p := []) (r := r) (c := c) rfl
    have hs : (S (c :: r)).length ≤ 1000000 := by rw [S_len]; exact hl
    have ha' : atI (S (c :: r)).cps.toList (0 : Int) = some c := ha
    have c2 := one_eq c "0" 48 rfl
    unfold numOk at hn
    dsimp only at hn
    by_cases hc : c = 48
    · rw [if_pos hc] at hn
      have hr : r = [] := of_decide_eq_true hn
      have e1 : decide (c = 48) = true := decide_eq_true hc
      have e3 : decide (S (c :: r) = ("0" : Str)) = true := by rw [hr, hc]; rfl
      clear hc hr
      walk_at "pm"
    · rw [if_neg hc, Bool.and_eq_true] at hn
      obtain ⟨h1, h2⟩ := hn
      have e1 : decide (c = 48) = false := decide_eq_false hc
      cases hi : PySem.intText? (S (c :: r)) with
      | none => rw [hi] at h2; cases h2
      | some n =>
        rw [hi] at h2
        have h2' : (n ≤ 1000000000000) = True := eq_true (of_decide_eq_true h2)
        have h1' : (((S (c :: r)).length : Int) ≤ 13) = True := eq_true (by rw [S_len]; have := of_decide_eq_true h1; omega)
        have ti : ∀ h, toIntG [.str (S (c :: r))] h = some (.int n, h) := fun h => by
          unfold toIntG
          dsimp only
          rw [if_pos (by rw [S_len]; have := of_decide_eq_true h1; omega), hi]
          rfl
        have d1 : c_LARGEST_NUMBER_LENGTH = .int 13 := rfl
        have d2 : c_LARGEST_NUMBER = .int 1000000000000 := rfl
        clear h1 h2 hc
        walk_at "pm"
end K00
end
section
set_option Elab.async false
set_option linter.all false
set_option maxRecDepth 100000
set_option maxHeartbeats 1000000
namespace K00
open PySem L2 PM TX
local macro_rules | `(tactic| walk_at "pm") => `(tactic| simp only [bind_ok, toS_ok, seq_nx, seq_rt, seq_bk, seq_ct, seq_exc, bind_exc, toS_exc, mSeq_ap, mNext_ap, mSet_ap, kSet_ap, mAsg_ap, kAsg_ap, ofS_some, gN_ap, gTup_ap, gCons_ap, gNil_ap, mDrop_ap, kDrop_ap, mRet_ap, mRetN_ap, mIfS_ap, kIf_t, kIf_f, mBreak_ap, mCont_ap, mBad_ap, mAug_ap, kAug_ap, mVar_ap, mC_ap, m1_ap, k1_ap, m2_ap, k2_ap, k2'_ap, ofO_some, mNil_ap, mCons_ap, kC_ap, kC'_ap, mCall_ap, mB_ap, kB_ap, mMeth_ap, kM_ap, kM'_ap, mTest_ap, kBl_ap, mNot_ap, kNot_ap, mAnd_ap, kAnd_t, kAnd_f, mOr_ap, kOr_t, kOr_f, mIfE_ap, kIfE_t, kIfE_f, mAndV_ap, kAndV_t, kAndV_f, mOrV_ap, kOrV_t, kOrV_f, mNotV_ap, kNotV_ap, mTup_ap, kTup_ap, mLst_ap, kLst_ap, mNoPart_ap, mPart_ap, kInt_ap, mSl_ap, kSl1_ap, kSl2_ap, kSl3_ap, mChain_ap, kCh0_ap, kCh1_ap, kCh2_t, kCh2_f, kCh3_ap, mPutD_ap, kP1_ap, kP2_ap, kP3_ap, runDef_ap, fin_nx, fin_rt, fin_exc, mYes_ap, add_ii, iadd_ii, add_ss, sub_ii, mul_ii, mul_si, mod_ii, fdiv_ii, pow_ii, neg_i, ord_ii, ord_ss, eq_ii, ne_ii, eq_ss, ne_ss, is_non, isn_non, int_i, len_s, len_t, min_ii, sl_s, in_c, nin_c, split_s, str1_ss, find4_s, ty_str, ord_c, iR1_ap, itR1_i, iS_ap, itS_s, iT_ap, itT_t, iE_ap, oD_some, len_r, oLen_l, oLen_r, oKey_s, it_ref, oItem_d, oItem_l, oItem_r, it_tup, oC_some, it_str, keyD_s, keyD_i, app_r, oApp_l, ext_r, oExt_l, ty_ref, oTy_l, isi_ref, oIsi_l, put_ref, oPut_d, oPutK_s, oBls_s, all_r, oAll_l, tup_r, oTup_l, itE_r, oEnum_l, List.map_cons, List.map_nil, List.length_cons, List.length_nil, List.replicate, List.cons_append, List.nil_append, List.set_cons_zero, List.set_cons_succ, List.getElem?_cons_zero, List.getElem?_cons_succ, Nat.reduceSub, Nat.reduceAdd, Nat.reduceLeDiff, Nat.reduceLT,  cond_true, cond_false, if_true, if_false, ite_true, ite_false, Bool.false_eq_true, reduceIte, Nat.zero_add, Option.bind_some, ne_eq, Int.reduceEq, not_false_eq_true, not_true_eq_false, decide_true, decide_false, Bool.not_true, Bool.not_false, *])

def okC (c : Nat) : Bool := decide (32 ≤ c) && decide (c ≤ 126) && decide (c ≠ 37) && decide (c ≠ 92)
theorem allowed_ok {c : Nat} {h : HP} (hc : okC c = true) : m_u_is_allowed [.str ⟨#[c]⟩] h = .ok (.bl true) h := by
  unfold okC at hc
  simp only [Bool.and_eq_true, decide_eq_true_eq] at hc
  obtain ⟨⟨⟨h1, h2⟩, h3⟩, h4⟩ := hc
  unfold m_u_is_allowed b_u_is_allowed
  have e1 : ∀ h, leG (.str (" " : Str)) (.str ⟨#[c]⟩) h = some (.bl true, h) := fun h => by
    show some (D.bl (!decide (([c] : List Nat) < [32])), h) = _
    have : ¬ (([c] : List Nat) < [32]) := by
      intro hlt
      have := List.cons_lt_cons_iff.mp hlt
      rcases this with h5 | ⟨h5, h6⟩
      · omega
      · exact absurd h6 (by simp)
    simp [this]
  have e2 : ∀ h, leG (.str ⟨#[c]⟩) (.str ("~" : Str)) h = some (.bl true, h) := fun h => by
    show some (D.bl (!decide (([126] : List Nat) < [c])), h) = _
    have : ¬ (([126] : List Nat) < [c]) := by
      intro hlt
      have := List.cons_lt_cons_iff.mp hlt
      rcases this with h5 | ⟨h5, h6⟩
      · omega
      · exact absurd h6 (by simp)
    simp [this]
  have e3 : ∀ h, inG true (.int c) (.tup [.int 37, .int 92]) h = some (.bl true, h) := fun h => by
    show some (D.bl (!inV (.int c) [.int 37, .int 92]), h) = _
    have : inV (.int c) [.int 37, .int 92] = false := by
      show (((37 : Int) == (c : Int)) || (((92 : Int) == (c : Int)) || false)) = false
      have a1 : ¬ (37 : Int) = c := by omega
      have a2 : ¬ (92 : Int) = c := by omega
      simp [a1, a2]
    rw [this]; rfl
  have d1 : c_PERCENT_SIGN = .int 37 := rfl
  have d2 : c_BACKSLASH = .int 92 := rfl
  clear h1 h2 h3 h4
  walk_at "pm"
theorem text_ok {l p u r : List Nat} {h : HP} (e : l = p ++ (34 :: u ++ [34]) ++ r) (hu : ∀ c ∈ u, okC c = true ∧ c ≠ 34) (hu2 : u.length ≤ 40) (hl : l.length ≤ 1000000) :
    ∃ g, m_end_of_text [.str (S l), .int p.length] h = .ok (.int ((p.length + (u.length + 2) : Nat) : Int)) (h ++ g) := by
  obtain ⟨q, bs, hq, q1, q2⟩ := all_q u.length
  refine ⟨[.lst q], ?_⟩
  unfold m_end_of_text b_end_of_text
  have e' : l = (p ++ [34]) ++ u ++ 34 :: r := by rw [e]; simp
  have hlen : l.length = p.length + 1 + u.length + (1 + r.length) := by rw [e']; simp; omega
  have hs : (S l).length ≤ 1000000 := by rw [S_len]; exact hl
  have d1 : c_LONGEST_TEXT = .int 40 := rfl
  have f1 : Txt.findIn (S l) ("\"" : Str) ((p.length : Int) + 1) ((p.length : Int) + 1 + 40 + 1) = ((p.length + 1 + u.length : Nat) : Int) := by
    have := find_nat (hi := p.length + 1 + 40 + 1) e' (fun hm => (hu 34 hm).2 rfl) (by simp; omega)
    simp only [List.length_append, List.length_cons, List.length_nil] at this
    exact this
  have c1 : (((p.length + 1 + u.length : Nat) : Int) < 0) = False := by simp; omega
  have s1 : cutS (S l) (some ((p.length : Int) + 1)) (some ((p.length + 1 + u.length : Nat) : Int)) = S u := by
    have := cut_mid e'
    simp only [List.length_append, List.length_cons, List.length_nil] at this
    exact this
  have da : ∀ h, mLc (iS (mSl slG (mVar 0) (mPart (mVar 2)) (mPart (mVar 3)))) 4 mYes (mCall m_u_is_allowed (mCons (mVar 4) mNil)) [some (.str (S l)), some (.int p.length), some (.int ((p.length : Int) + 1)), some (.int ((p.length + 1 + u.length : Nat) : Int)), none] h = .ok (.ref h.length) (h ++ [.lst q]) := fun h => by
    rw [mLc_ok (xs := u.map fun c => .str ⟨#[c]⟩) (G := fun _ => True) (h' := h) (by
      have ul : u.length ≤ 1000000 := by omega
      clear hq e e' f1 hlen
      walk_at "pm"), hq]
    refine lc_chars (by omega) fun c hc acc => ?_
    have al := fun h => @allowed_ok c h (hu c hc).1
    clear hq e e' f1 hlen
    walk_at "pm"
  have gn := fun h => @get_new h (.lst q) []
  have z : ((p.length + (u.length + 2) : Nat) : Int) = ((p.length + 1 + u.length : Nat) : Int) + 1 := by omega
  rw [z]
  clear hq e e' hlen z
  walk_at "pm"
/-! signs -/
def SGL : List (List Nat) := [[40], [41], [91], [93], [44], [59], [46], [42], [61], [60], [60, 61], [43], [45]]
theorem memS {x : List Nat} {xs : List (List Nat)} : decide (S x ∈ xs.map S) = decide (x ∈ xs) := by
  have : (S x ∈ xs.map S) = (x ∈ xs) := by
    apply propext
    constructor
    · intro h
      obtain ⟨y, hy, e⟩ := List.mem_map.mp h
      rw [S_inj] at e
      rw [← e]; exact hy
    · exact fun h => List.mem_map_of_mem h
  simp only [this]
theorem in_sign {x : List Nat} {h : HP} : inG false (.str (S x)) c_SIGNS h = some (.bl (decide (x ∈ SGL)), h) := by
  have : c_SIGNS = .tup ((SGL.map S).map D.str) := rfl
  rw [this, inG_t, memS]
def hdOk (w r : List Nat) : Bool := match r with
  | [] => true
  | c :: _ => if w = [60] then decide (c ≠ 61) else !(isWC (w.headD 0) && isWC c)
theorem sgl_len : ∀ w ∈ SGL, w.length = 1 ∨ w.length = 2 := by decide
theorem sgl_two : ∀ w ∈ SGL, w.length = 2 → w = [60, 61] := by decide
theorem sgl_wc : ∀ w ∈ SGL, isWC (w.headD 0) = false ∧ decide (w.headD 0 ∈ DIG) = false ∧ decide (w.headD 0 ∈ LET) = false ∧ decide (w.headD 0 = 34) = false := by decide
theorem sign_ok {l p w r : List Nat} {h : HP} (e : l = p ++ w ++ r) (hw : w ∈ SGL) (hr : hdOk w r = true) (hl : l.length ≤ 1000000) :
    m_u_sign_at [.str (S l), .int p.length] h = .ok (.str (S w)) h := by
  have hs : (S l).length ≤ 1000000 := by rw [S_len]; exact hl
  have hpl : p.length ≤ l.length := by rw [e]; simp
  have dr : l.drop p.length = w ++ r := by rw [e]; simp
  have s2 : cutS (S l) (some (p.length : Int)) (some ((p.length : Int) + 2)) = S ((w ++ r).take 2) := by
    have := cut_nat (l := l) (b := p.length + 2) hpl
    rw [dr] at this
    rw [show p.length + 2 - p.length = 2 by omega] at this
    exact this
  have s1 : cutS (S l) (some (p.length : Int)) (some ((p.length : Int) + 1)) = S ((w ++ r).take 1) := by
    have := cut_nat (l := l) (b := p.length + 1) hpl
    rw [dr] at this
    rw [show p.length + 1 - p.length = 1 by omega] at this
    exact this
  have i1 := fun x h => @in_sign x h
  have step : ∀ (k : Int) (x : List Nat) (v : Option D), cutS (S l) (some (p.length : Int)) (some ((p.length : Int) + k)) = S x →
      L_u_sign_at_1 [some (.str (S l)), some (.int p.length), some (.int k), v] h = if x ∈ SGL then .rt (.str (S x)) h else .nx [some (.str (S l)), some (.int p.length), some (.int k), some (.str (S x))] h := by
    intro k x v sk
    unfold L_u_sign_at_1
    clear e dr s1 s2
    by_cases hx : x ∈ SGL
    · have e1 : decide (x ∈ SGL) = true := decide_eq_true hx
      rw [if_pos hx]
      clear hx
      walk_at "pm"
    · have e1 : decide (x ∈ SGL) = false := decide_eq_false hx
      rw [if_neg hx]
      clear hx
      walk_at "pm"
  have body : mFor (iT (mTup (mCons (mC (.int 2)) (mCons (mC (.int 1)) mNil)))) (gN 2) L_u_sign_at_1 [some (.str (S l)), some (.int p.length), none, none] h = .rt (.str (S w)) h := by
    rw [mFor_ok (xs := [.int 2, .int 1]) (G := fun _ => True) (h' := h) (by clear e dr s1 s2; walk_at "pm")]
    rcases sgl_len w hw with h1 | h1
    · match w, h1 with
      | [a], _ =>
        by_cases hin : ([a] ++ r).take 2 ∈ SGL
        · cases r with
          | nil =>
            refine mLoop_rt (s1 := [some (.str (S l)), some (.int p.length), some (.int 2), none]) trivial rfl ?_
            rw [step 2 _ none s2, if_pos hin]; rfl
          | cons c r =>
            have := sgl_two _ hin (by simp)
            simp only [List.cons_append, List.nil_append, List.take, List.cons.injEq, and_true] at this
            obtain ⟨rfl, rfl⟩ := this
            cases hr
        · rw [mLoop_nx (s1 := [some (.str (S l)), some (.int p.length), some (.int 2), none]) (s2 := [some (.str (S l)), some (.int p.length), some (.int 2), some (.str (S (([a] ++ r).take 2)))]) (h2 := h) trivial rfl (.inl (by rw [step 2 _ none s2, if_neg hin]))]
          refine mLoop_rt (s1 := [some (.str (S l)), some (.int p.length), some (.int 1), some (.str (S (([a] ++ r).take 2)))]) trivial rfl ?_
          rw [step 1 _ _ s1]
          exact if_pos hw
    · have ht : (w ++ r).take 2 = w := by rw [← h1]; simp
      refine mLoop_rt (s1 := [some (.str (S l)), some (.int p.length), some (.int 2), none]) trivial rfl ?_
      rw [step 2 _ none s2, ht, if_pos hw]
  unfold m_u_sign_at b_u_sign_at
  clear e dr s1 s2 step
  walk_at "pm"
/-! tokens -/
def KW : List (List Nat) := (["event", "def", "watch", "number", "word", "implies", "or", "and", "since", "until", "not", "some", "all", "before", "next", "once", "held", "soon", "kept", "count", "sum", "least", "most", "of", "true", "false"] : List String).map fun s => s.toList.map Char.toNat
theorem in_kw {x : List Nat} {h : HP} : inG false (.str (S x)) c_KEYWORDS h = some (.bl (decide (x ∈ KW)), h) := by
  have : c_KEYWORDS = .tup ((KW.map S).map D.str) := rfl
  rw [this, inG_t, memS]
inductive Tok : List Nat → Str → List Nat → Prop
  | text {u : List Nat} (a : ∀ c ∈ u, okC c = true ∧ c ≠ 34) (b : u.length ≤ 40) : Tok (34 :: u ++ [34]) "text" u
  | num {w : List Nat} (a : ∀ c ∈ w, c ∈ DIG) (b : numOk w = true) : Tok w "number" w
  | word {c : Nat} {r : List Nat} (a : c ∈ LET) (b : ∀ d ∈ r, isWC d = true) : Tok (c :: r) (if c :: r ∈ KW then "keyword" else "name") (c :: r)
  | sign {w : List Nat} (a : w ∈ SGL) : Tok w "sign" w
theorem hd_wc {w r : List Nat} (h : hdOk w r = true) (hw : isWC (w.headD 0) = true) : hdW r = true := by
  cases r with
  | nil => rfl
  | cons c r =>
    unfold hdOk at h
    dsimp only at h
    by_cases e : w = [60]
    · rw [e] at hw; exact absurd hw (by decide)
    · rw [if_neg e, hw] at h
      exact h
theorem let_dig : ∀ c ∈ LET, decide (c ∈ DIG) = false ∧ decide (c = 34) = false := by decide
theorem dig_q : ∀ c ∈ DIG, decide (c = 34) = false := by decide
theorem token_ok {l p w r t : List Nat} {k : Str} {row : D} {h : HP} (e : l = p ++ w ++ r) (hw : Tok w k t) (hr : hdOk w r = true) (hl : l.length ≤ 1000000) :
    ∃ g, m_u_token_at [.str (S l), row, .int p.length] h = .ok (.tup [.str k, .str (S t), .int ((p.length + w.length : Nat) : Int)]) (h ++ g) := by
  have hs : (S l).length ≤ 1000000 := by rw [S_len]; exact hl
  have i1 := fun c h => @in_let c h
  have i2 := fun c h => @in_dig c h
  have sm := cut_mid e
  have q0 := fun c => one_eq c "\"" 34 rfl
  have n1 : ∀ i, PM.isNon (.int i) = false := fun _ => rfl
  have n2 : ∀ i, PM.isNon (.str i) = false := fun _ => rfl
  cases hw with
  | text a b =>
    obtain ⟨g, tt⟩ := text_ok (h := h) e a b hl
    refine ⟨g, ?_⟩
    unfold m_u_token_at b_u_token_at
    have ha := at_nat (p := p) (c := 34) (r := t ++ [34] ++ r) (l := l) (by rw [e]; simp)
    have e' : l = (p ++ [34]) ++ t ++ 34 :: r := by rw [e]; simp
    have s1 : cutS (S l) (some ((p.length : Int) + 1)) (some (((p.length + (t.length + 2) : Nat) : Int) - 1)) = S t := by
      have := cut_mid e'
      simp only [List.length_append, List.length_cons, List.length_nil] at this
      rw [show ((p.length + (t.length + 2) : Nat) : Int) - 1 = ((p.length + 1 + t.length : Nat) : Int) by omega]
      exact this
    have z : p.length + (34 :: t ++ [34]).length = p.length + (t.length + 2) := by simp
    rw [z]
    have q1 : decide ((34 : Nat) = 34) = true := rfl
    clear e e' sm z
    walk_at "pm"
  | num a b =>
    cases w with
    | nil => cases b
    | cons c w =>
      have hc := a c List.mem_cons_self
      have hcw : ∀ d ∈ c :: w, isWC d = true := fun d hd => by
        have := a d hd
        unfold isWC
        simp [this]
      have tt := fun h => @eow_ok l p (c :: w) r h e hcw (hd_wc hr (hcw c List.mem_cons_self)) hl
      have hwl : (c :: w).length ≤ 1000000 := by rw [e] at hl; simp at hl ⊢; omega
      obtain ⟨g, tn⟩ := number_ok (h := h) a b hwl
      refine ⟨g, ?_⟩
      unfold m_u_token_at b_u_token_at
      have ha := at_nat (p := p) (c := c) (r := w ++ r) (l := l) (by rw [e]; simp)
      have q1 := dig_q c hc
      have q2 : decide (c ∈ DIG) = true := decide_eq_true hc
      generalize hgen : ((p.length + (c :: w).length : Nat) : Int) = n at *
      generalize hgen2 : S (c :: w) = sw at *
      clear e hc a b hwl hgen hgen2
      walk_at "pm"
  | @word c w a b =>
    have q1 := let_dig c a
    obtain ⟨q1, q3⟩ := q1
    have q2 : decide (c ∈ LET) = true := decide_eq_true a
    have hcw : ∀ d ∈ c :: w, isWC d = true := fun d hd => by
      rcases List.mem_cons.mp hd with rfl | hd
      · unfold isWC; simp [a]
      · exact b d hd
    have tt := fun h => @eow_ok l p (c :: w) r h e hcw (hd_wc hr (hcw c List.mem_cons_self)) hl
    refine ⟨[], ?_⟩
    rw [List.append_nil]
    unfold m_u_token_at b_u_token_at
    have ha := at_nat (p := p) (c := c) (r := w ++ r) (l := l) (by rw [e]; simp)
    have ik := fun h => @in_kw (c :: w) h
    by_cases hk : c :: w ∈ KW
    · rw [if_pos hk]
      have hk' : decide (c :: w ∈ KW) = true := decide_eq_true hk
      generalize hgen : ((p.length + (c :: w).length : Nat) : Int) = n at *
      generalize hgen2 : S (c :: w) = sw at *
      clear e a b hgen hgen2 hk
      walk_at "pm"
    · rw [if_neg hk]
      have hk' : decide (c :: w ∈ KW) = false := decide_eq_false hk
      generalize hgen : ((p.length + (c :: w).length : Nat) : Int) = n at *
      generalize hgen2 : S (c :: w) = sw at *
      clear e a b hgen hgen2 hk
      walk_at "pm"
  | sign a =>
    have tt := sign_ok (h := h) e a hr hl
    obtain ⟨_, q1, q2, q3⟩ := sgl_wc w a
    refine ⟨[], ?_⟩
    rw [List.append_nil]
    unfold m_u_token_at b_u_token_at
    cases w with
    | nil => exact absurd a (by decide)
    | cons c w =>
      have ha := at_nat (p := p) (c := c) (r := w ++ r) (l := l) (by rw [e]; simp)
      have q1 : decide (c ∈ DIG) = false := q1
      have q2 : decide (c ∈ LET) = false := q2
      have q3 : decide (c = 34) = false := q3
      have sl : (S (c :: w)).length ≤ 1000000 := by rw [S_len]; rw [e] at hl; simp at hl ⊢; omega
      have z : ((p.length + (c :: w).length : Nat) : Int) = (p.length : Int) + ((S (c :: w)).length : Int) := by rw [S_len]; omega
      rw [z]
      generalize hgen2 : S (c :: w) = sw at *
      clear e a hgen2 z
      walk_at "pm"
end K00
end
section
set_option Elab.async false
set_option linter.all false
set_option maxRecDepth 100000
set_option maxHeartbeats 1000000
namespace K00
open PySem L2 PM TX
local macro_rules | `(tactic| walk_at "pm") => `(tactic| simp only [bind_ok, toS_ok, seq_nx, seq_rt, seq_bk, seq_ct, seq_exc, bind_exc, toS_exc, mSeq_ap, mNext_ap, mSet_ap, kSet_ap, mAsg_ap, kAsg_ap, ofS_some, gN_ap, gTup_ap, gCons_ap, gNil_ap, mDrop_ap, kDrop_ap, mRet_ap, mRetN_ap, mIfS_ap, kIf_t, kIf_f, mBreak_ap, mCont_ap, mBad_ap, mAug_ap, kAug_ap, mVar_ap, mC_ap, m1_ap, k1_ap, m2_ap, k2_ap, k2'_ap, ofO_some, mNil_ap, mCons_ap, kC_ap, kC'_ap, mCall_ap, mB_ap, kB_ap, mMeth_ap, kM_ap, kM'_ap, mTest_ap, kBl_ap, mNot_ap, kNot_ap, mAnd_ap, kAnd_t, kAnd_f, mOr_ap, kOr_t, kOr_f, mIfE_ap, kIfE_t, kIfE_f, mAndV_ap, kAndV_t, kAndV_f, mOrV_ap, kOrV_t, kOrV_f, mNotV_ap, kNotV_ap, mTup_ap, kTup_ap, mLst_ap, kLst_ap, mNoPart_ap, mPart_ap, kInt_ap, mSl_ap, kSl1_ap, kSl2_ap, kSl3_ap, mChain_ap, kCh0_ap, kCh1_ap, kCh2_t, kCh2_f, kCh3_ap, mPutD_ap, kP1_ap, kP2_ap, kP3_ap, runDef_ap, fin_nx, fin_rt, fin_exc, mYes_ap, add_ii, iadd_ii, add_ss, sub_ii, mul_ii, mul_si, mod_ii, fdiv_ii, pow_ii, neg_i, ord_ii, ord_ss, eq_ii, ne_ii, eq_ss, ne_ss, is_non, isn_non, int_i, len_s, len_t, min_ii, sl_s, in_c, nin_c, split_s, str1_ss, find4_s, ty_str, ord_c, iR1_ap, itR1_i, iS_ap, itS_s, iT_ap, itT_t, iE_ap, oD_some, len_r, oLen_l, oLen_r, oKey_s, it_ref, oItem_d, oItem_l, oItem_r, it_tup, oC_some, it_str, keyD_s, keyD_i, app_r, oApp_l, ext_r, oExt_l, ty_ref, oTy_l, isi_ref, oIsi_l, put_ref, oPut_d, oPutK_s, oBls_s, all_r, oAll_l, tup_r, oTup_l, itE_r, oEnum_l, List.map_cons, List.map_nil, List.length_cons, List.length_nil, List.replicate, List.cons_append, List.nil_append, List.set_cons_zero, List.set_cons_succ, List.getElem?_cons_zero, List.getElem?_cons_succ, Nat.reduceSub, Nat.reduceAdd, Nat.reduceLeDiff, Nat.reduceLT,  cond_true, cond_false, if_true, if_false, ite_true, ite_false, Bool.false_eq_true, reduceIte, Nat.zero_add, Option.bind_some, ne_eq, Int.reduceEq, not_false_eq_true, not_true_eq_false, decide_true, decide_false, Bool.not_true, Bool.not_false, *])

def tokD (k : Str) (t : List Nat) (row at' : Nat) : D := .tup [.str k, .str (S t), .int row, .int (at' + 1 : Nat)]
inductive RowT (row : Nat) : List Nat → Nat → List D → Prop
  | nil {a : Nat} : RowT row [] a []
  | hash {l : List Nat} {a : Nat} : RowT row (35 :: l) a []
  | sp {l : List Nat} {a : Nat} {ts : List D} (h : RowT row l (a + 1) ts) : RowT row (32 :: l) a ts
  | tok {w r t : List Nat} {k : Str} {a : Nat} {ts : List D} (hw : Tok w k t) (hr : hdOk w r = true) (h : RowT row r (a + w.length) ts) : RowT row (w ++ r) a (tokD k t row a :: ts)
theorem let_hd : ∀ c ∈ LET, c ≠ 35 ∧ c ≠ 32 ∧ c ≠ 10 := by decide
theorem dig_hd : ∀ c ∈ DIG, c ≠ 35 ∧ c ≠ 32 ∧ c ≠ 10 := by decide
theorem sgl_hd : ∀ w ∈ SGL, w.headD 0 ≠ 35 ∧ w.headD 0 ≠ 32 ∧ 10 ∉ w ∧ w ≠ [] := by decide
theorem wc_nl {c : Nat} (h : isWC c = true) : c ≠ 10 := by
  intro e; rw [e] at h; exact absurd h (by decide)
theorem Tok.hd {w t : List Nat} {k : Str} (h : Tok w k t) : (∃ c v, w = c :: v ∧ decide (c = 35) = false ∧ decide (c = 32) = false) ∧ 10 ∉ w := by
  cases h with
  | text a b =>
    refine ⟨⟨34, t ++ [34], rfl, rfl, rfl⟩, fun hm => ?_⟩
    rcases List.mem_append.mp hm with hm | hm
    · rcases List.mem_cons.mp hm with hm | hm
      · cases hm
      · have := (a 10 hm).1
        exact absurd this (by decide)
    · exact absurd hm (by decide)
  | num a b =>
    cases w with
    | nil => cases b
    | cons c w =>
      have := dig_hd c (a c List.mem_cons_self)
      exact ⟨⟨c, w, rfl, decide_eq_false this.1, decide_eq_false this.2.1⟩, fun hm => (dig_hd 10 (a 10 hm)).2.2 rfl⟩
  | @word c r a b =>
    have := let_hd c a
    exact ⟨⟨c, r, rfl, decide_eq_false this.1, decide_eq_false this.2.1⟩, fun hm => by
      rcases List.mem_cons.mp hm with hm | hm
      · exact this.2.2 hm.symm
      · exact wc_nl (b 10 hm) rfl⟩
  | sign a =>
    have := sgl_hd w a
    cases w with
    | nil => exact absurd rfl this.2.2.2
    | cons c w => exact ⟨⟨c, w, rfl, decide_eq_false this.1, decide_eq_false this.2.1⟩, this.2.2.1⟩
theorem T_row {l p r : List Nat} {c : Nat} {x y v4 v5 v6 : Option D} {h : HP} (e : l = p ++ c :: r) (hl : l.length ≤ 1000000) :
    T_u_tokens_of_row_1 [some (.str (S l)), x, y, some (.int p.length), v4, v5, v6] h = .ok (!decide (c = 35)) h := by
  unfold T_u_tokens_of_row_1
  have ha := at_nat e
  have hs : (S l).length ≤ 1000000 := by rw [S_len]; exact hl
  have c1 := lt_app e
  have c2 := one_eq c "#" 35 rfl
  clear e
  cases e3 : decide (c = 35) <;> walk_at "pm"
theorem T_row0 {l : List Nat} {x y v4 v5 v6 : Option D} {h : HP} {n : Nat} (hn : n = l.length) (hl : l.length ≤ 1000000) :
    T_u_tokens_of_row_1 [some (.str (S l)), x, y, some (.int n), v4, v5, v6] h = .ok false h := by
  unfold T_u_tokens_of_row_1
  have hs : (S l).length ≤ 1000000 := by rw [S_len]; exact hl
  have c1 : ((n : Int) < ((S l).length : Int)) = False := by rw [S_len, hn]; simp
  clear hn
  walk_at "pm"
theorem row_loop {l : List Nat} {row : Nat} {h : HP} (hl : l.length ≤ 1000000) : ∀ {cur : List Nat} {a : Nat} {ts : List D}, RowT row cur a ts → ∀ (p : List Nat) (n : Nat) (v4 v5 v6 : Option D) (acc : List D) (g : HP),
    l = p ++ cur → p.length = a → cur.length < n → acc.length + cur.length < 1000000 →
    ∃ x y4 y5 y6 g', mWhileN n T_u_tokens_of_row_1 L_u_tokens_of_row_1 [some (.str (S l)), some (.int row), some (.ref h.length), some (.int a), v4, v5, v6] (h ++ .lst acc :: g) =
      .nx [some (.str (S l)), some (.int row), some (.ref h.length), x, y4, y5, y6] (h ++ .lst (acc ++ ts) :: g') := by
  intro cur a ts hr
  induction hr with
  | nil =>
    intro p n v4 v5 v6 acc g e ea hn hc
    cases n with
    | zero => omega
    | succ n => exact ⟨_, v4, v5, v6, g, by rw [List.append_nil]; exact wh_f (T_row0 (by rw [e, ← ea]; simp) hl)⟩
  | hash =>
    intro p n v4 v5 v6 acc g e ea hn hc
    cases n with
    | zero => omega
    | succ n => exact ⟨_, v4, v5, v6, g, by rw [List.append_nil]; exact wh_f (by rw [← ea]; exact T_row e hl)⟩
  | @sp cur a ts hr ih =>
    intro p n v4 v5 v6 acc g e ea hn hc
    cases n with
    | zero => omega
    | succ n =>
      obtain ⟨x, w4, w5, w6, g', ih⟩ := ih (p ++ [32]) n v4 v5 v6 acc g (by rw [e]; simp) (by rw [← ea]; simp) (by simp at hn; omega) (by simp at hc; omega)
      refine ⟨x, w4, w5, w6, g', ?_⟩
      rw [← ih]
      refine wh_nx (by rw [← ea]; exact T_row e hl) (.inl ?_)
      unfold L_u_tokens_of_row_1
      have hs : (S l).length ≤ 1000000 := by rw [S_len]; exact hl
      have ha := at_nat e
      rw [ea] at ha
      have c2 : decide ((⟨#[32]⟩ : Str) = " ") = true := rfl
      clear e ea ih
      walk_at "pm"
      rfl
  | @tok w r t k a ts hw hr h' ih =>
    intro p n v4 v5 v6 acc g e ea hn hc
    obtain ⟨⟨c, v, ew, c1, c2⟩, _⟩ := hw.hd
    have wl : 0 < w.length := by rw [ew]; simp
    cases n with
    | zero => omega
    | succ n =>
      rw [List.length_append] at hn hc
      have e' : l = (p ++ w) ++ r := by rw [e]; simp
      obtain ⟨g2, tk⟩ := token_ok (row := .int row) (h := h ++ .lst acc :: g) e' hw hr hl
      obtain ⟨x, w4, w5, w6, g', ih⟩ := ih (p ++ w) n (some (.str k)) (some (.str (S t))) (some (.int ((p.length + w.length : Nat) : Int))) (acc ++ [tokD k t row a]) (g ++ g2) e' (by rw [← ea]; simp) (by omega) (by simp; omega)
      refine ⟨x, w4, w5, w6, g', ?_⟩
      rw [List.append_assoc, List.singleton_append] at ih
      rw [← ih]
      have ec : l = p ++ c :: (v ++ r) := by rw [e, ew]; simp
      refine wh_nx (h' := h ++ .lst acc :: g) (by rw [← ea, T_row ec hl, c1]; rfl) (.inl ?_)
      unfold L_u_tokens_of_row_1
      have hs : (S l).length ≤ 1000000 := by rw [S_len]; exact hl
      have ha := at_nat ec
      rw [ea] at ha tk
      have d2 : decide ((⟨#[c]⟩ : Str) = " ") = false := by rw [one_eq c " " 32 rfl]; exact c2
      have gl : (h ++ .lst acc :: g) ++ g2 = h ++ .lst acc :: (g ++ g2) := by simp
      rw [gl] at tk
      have gn := @get_new h (.lst acc) (g ++ g2)
      have sn := @set_new h (.lst acc) (.lst (acc ++ [tokD k t row a])) (g ++ g2)
      have al : acc.length < 1000000 := by omega
      unfold tokD at sn ⊢
      have z : ((a + 1 : Nat) : Int) = (a : Int) + 1 := by omega
      rw [z] at sn ⊢
      rw [ea]
      clear e e' ec ea ih ew gl z
      walk_at "pm"
theorem row_ok {l : List Nat} {row : Nat} {ts : List D} {h : HP} (hl : l.length < 1000000) (hr : RowT row l 0 ts) :
    ∃ g, m_u_tokens_of_row [.str (S l), .int row] h = .ok (.ref h.length) (h ++ .lst ts :: g) := by
  obtain ⟨x, v4, v5, v6, g, t⟩ := row_loop (l := l) (h := h) (by omega) hr [] wN none none none [] [] rfl rfl (by unfold wN; omega) (by simpa using hl)
  refine ⟨g, ?_⟩
  rw [← mWhile_eq] at t
  unfold m_u_tokens_of_row b_u_tokens_of_row
  have t' : mWhile T_u_tokens_of_row_1 L_u_tokens_of_row_1 [some (.str (S l)), some (.int row), some (.ref h.length), some (.int 0), none, none, none] (h ++ [.lst []]) = .nx [some (.str (S l)), some (.int row), some (.ref h.length), x, v4, v5, v6] (h ++ .lst ts :: g) := t
  clear t
  walk_at "pm"
end K00
end
section
set_option Elab.async false
set_option linter.all false
set_option maxRecDepth 100000
set_option maxHeartbeats 1000000
namespace K00
open PySem L2 PM TX
local macro_rules | `(tactic| walk_at "pm") => `(tactic| simp only [bind_ok, toS_ok, seq_nx, seq_rt, seq_bk, seq_ct, seq_exc, bind_exc, toS_exc, mSeq_ap, mNext_ap, mSet_ap, kSet_ap, mAsg_ap, kAsg_ap, ofS_some, gN_ap, gTup_ap, gCons_ap, gNil_ap, mDrop_ap, kDrop_ap, mRet_ap, mRetN_ap, mIfS_ap, kIf_t, kIf_f, mBreak_ap, mCont_ap, mBad_ap, mAug_ap, kAug_ap, mVar_ap, mC_ap, m1_ap, k1_ap, m2_ap, k2_ap, k2'_ap, ofO_some, mNil_ap, mCons_ap, kC_ap, kC'_ap, mCall_ap, mB_ap, kB_ap, mMeth_ap, kM_ap, kM'_ap, mTest_ap, kBl_ap, mNot_ap, kNot_ap, mAnd_ap, kAnd_t, kAnd_f, mOr_ap, kOr_t, kOr_f, mIfE_ap, kIfE_t, kIfE_f, mAndV_ap, kAndV_t, kAndV_f, mOrV_ap, kOrV_t, kOrV_f, mNotV_ap, kNotV_ap, mTup_ap, kTup_ap, mLst_ap, kLst_ap, mNoPart_ap, mPart_ap, kInt_ap, mSl_ap, kSl1_ap, kSl2_ap, kSl3_ap, mChain_ap, kCh0_ap, kCh1_ap, kCh2_t, kCh2_f, kCh3_ap, mPutD_ap, kP1_ap, kP2_ap, kP3_ap, runDef_ap, fin_nx, fin_rt, fin_exc, mYes_ap, add_ii, iadd_ii, add_ss, sub_ii, mul_ii, mul_si, mod_ii, fdiv_ii, pow_ii, neg_i, ord_ii, ord_ss, eq_ii, ne_ii, eq_ss, ne_ss, is_non, isn_non, int_i, len_s, len_t, min_ii, sl_s, in_c, nin_c, split_s, str1_ss, find4_s, ty_str, ord_c, iR1_ap, itR1_i, iS_ap, itS_s, iT_ap, itT_t, iE_ap, oD_some, len_r, oLen_l, oLen_r, oKey_s, it_ref, oItem_d, oItem_l, oItem_r, it_tup, oC_some, it_str, keyD_s, keyD_i, app_r, oApp_l, ext_r, oExt_l, ty_ref, oTy_l, isi_ref, oIsi_l, put_ref, oPut_d, oPutK_s, oBls_s, all_r, oAll_l, tup_r, oTup_l, itE_r, oEnum_l, List.map_cons, List.map_nil, List.length_cons, List.length_nil, List.replicate, List.cons_append, List.nil_append, List.set_cons_zero, List.set_cons_succ, List.getElem?_cons_zero, List.getElem?_cons_succ, Nat.reduceSub, Nat.reduceAdd, Nat.reduceLeDiff, Nat.reduceLT,  cond_true, cond_false, if_true, if_false, ite_true, ite_false, Bool.false_eq_true, reduceIte, Nat.zero_add, Option.bind_some, ne_eq, Int.reduceEq, not_false_eq_true, not_true_eq_false, decide_true, decide_false, Bool.not_true, Bool.not_false, *])

theorem RowT.len {row : Nat} {cur : List Nat} {a : Nat} {ts : List D} (h : RowT row cur a ts) : ts.length ≤ cur.length := by
  induction h with
  | nil => simp
  | hash => simp
  | sp _ ih => simp; omega
  | tok hw hr _ ih =>
    obtain ⟨⟨c, v, ew, _, _⟩, _⟩ := hw.hd
    rw [ew]; simp; omega
inductive LinesT : Nat → List (List Nat) → List D → Prop
  | nil {row : Nat} : LinesT row [] []
  | cons {row : Nat} {l : List Nat} {ls : List (List Nat)} {ts us : List D} (h : RowT row l 0 ts) (t : LinesT (row + 1) ls us) : LinesT row (l :: ls) (ts ++ us)
def tot (ls : List (List Nat)) : Nat := (ls.map List.length).sum
theorem tot_jn : ∀ (cur : List Nat) (ls : List (List Nat)), tot (cur :: ls) ≤ (jn cur ls).length
  | cur, [] => by simp [tot, jn]
  | cur, q :: r => by
    have := tot_jn q r
    show tot (cur :: q :: r) ≤ (cur ++ 10 :: jn q r).length
    unfold tot at *
    simp at *
    omega
theorem num_jn : ∀ (cur : List Nat) (ls : List (List Nat)), ls.length ≤ (jn cur ls).length
  | cur, [] => by simp
  | cur, q :: r => by
    have := num_jn q r
    unfold jn
    simp
    omega
theorem enum_cons (k : Int) (d : D) (ds : List D) : enumDs k (d :: ds) = .tup [.int k, d] :: enumDs (k + 1) ds := by
  unfold enumDs
  rw [List.mapIdx_cons]
  congr 1
  · simp
  · congr 1
    funext i d
    congr 3
    simp
    omega
theorem get_new2 {h : HP} {o o2 : Ob} {g : HP} : (h ++ o :: o2 :: g)[h.length + 1]? = some o2 := by rw [List.getElem?_append_right (by omega)]; simp
theorem lines_loop {u : Str} {h : HP} {L : List D} : ∀ {row : Nat} {ls : List (List Nat)} {ts : List D}, LinesT row ls ts → ∀ (v3 v4 : Option D) (acc : List D) (g : HP), acc.length + tot ls < 1000000 →
    ∃ y3 y4 g', mLoop (fun h' => h'[h.length + 1]? = some (.lst L)) (PM.gTup 2 (PM.gCons (gN 3) (PM.gCons (gN 4) PM.gNil))) L_tokens_1 (enumDs row ((ls.map S).map D.str)) [some (.str u), some (.ref h.length), some (.ref (h.length + 1)), v3, v4] (h ++ .lst acc :: .lst L :: g) =
      .nx [some (.str u), some (.ref h.length), some (.ref (h.length + 1)), y3, y4] (h ++ .lst (acc ++ ts) :: .lst L :: g') := by
  intro row ls ts hh
  induction hh with
  | nil =>
    intro v3 v4 acc g _
    refine ⟨v3, v4, g, ?_⟩
    rw [List.append_nil]
    exact mLoop_nil get_new2
  | @cons row l ls ts us hr ht ih =>
    intro v3 v4 acc g hc
    have hll : tot (l :: ls) = l.length + tot ls := by simp [tot]
    have htl := hr.len
    obtain ⟨g2, tk⟩ := row_ok (h := h ++ .lst acc :: .lst L :: g) (by omega) hr
    obtain ⟨y3, y4, g', ih⟩ := ih (some (.int row)) (some (.str (S l))) (acc ++ ts) (g ++ .lst ts :: g2) (by simp; omega)
    refine ⟨y3, y4, g', ?_⟩
    rw [List.append_assoc] at ih
    rw [← ih, List.map_cons, List.map_cons, enum_cons]
    refine mLoop_nx (s1 := [some (.str u), some (.ref h.length), some (.ref (h.length + 1)), some (.int row), some (.str (S l))]) get_new2 rfl (.inl ?_)
    unfold L_tokens_1
    have gl : (h ++ .lst acc :: .lst L :: g) ++ .lst ts :: g2 = h ++ .lst acc :: .lst L :: (g ++ .lst ts :: g2) := by simp
    have gt := @get_new (h ++ .lst acc :: .lst L :: g) (.lst ts) g2
    rw [gl] at tk gt
    have gn := @get_new h (.lst acc) (.lst L :: (g ++ .lst ts :: g2))
    have gn0 := @get_new h (.lst acc) (.lst L :: g)
    have sn := @set_new h (.lst acc) (.lst (acc ++ ts)) (.lst L :: (g ++ .lst ts :: g2))
    have al : acc.length + ts.length ≤ 1000000 := by omega
    generalize hgen : (h ++ .lst acc :: .lst L :: g).length = n at *
    generalize hgen2 : h ++ .lst acc :: .lst L :: (g ++ .lst ts :: g2) = h2 at *
    clear ih hgen gl hll hgen2
    walk_at "pm"
def endD (row col : Nat) : D := .tup [.str "end", .str "", .int row, .int (col + 1 : Nat)]
theorem tokens_ok {cur : List Nat} {ls : List (List Nat)} {ts : List D} {ini : List (List Nat)} {la : List Nat} {h : HP} (hp : ∀ p ∈ cur :: ls, 10 ∉ p) (hl : (jn cur ls).length < 900000) (hla : cur :: ls = ini ++ [la]) (ht : LinesT 1 (cur :: ls) ts) :
    ∃ g, m_tokens [.str (S (jn cur ls))] h = .ok (.ref h.length) (h ++ .lst (ts ++ [endD (cur :: ls).length la.length]) :: g) := by
  have hs : (S (jn cur ls)).length ≤ 1000000 := by rw [S_len]; omega
  have sp := split_jn hp
  have tj := tot_jn cur ls
  have nj := num_jn cur ls
  obtain ⟨y3, y4, g, t⟩ := lines_loop (u := S (jn cur ls)) (h := h) (L := ((cur :: ls).map S).map D.str) ht none none [] [] (by simp; omega)
  refine ⟨.lst (((cur :: ls).map S).map D.str) :: g, ?_⟩
  have tl : ts.length ≤ tot (cur :: ls) := by
    clear tj nj t sp hp hl hla hs
    generalize (1 : Nat) = rw1 at ht
    generalize cur :: ls = cls at ht
    induction ht with
    | nil => simp
    | cons hr _ ih => have := hr.len; simp [tot] at *; omega
  have ln : ((((cur :: ls).map S).map D.str).length : Int) = ((cur :: ls).length : Int) := by simp
  have al : atI (((cur :: ls).map S).map D.str) (-1) = some (.str (S la)) := by
    rw [hla, List.map_append, List.map_append]
    exact atI_last _ _
  have lal : la.length ≤ tot (cur :: ls) := by rw [hla]; simp [tot]
  have sl : (S la).length ≤ 1000000 := by rw [S_len]; omega
  have sl2 : ((S la).length : Int) = (la.length : Int) := by rw [S_len]
  have g1 := @get_new h (.lst ts) (.lst (((cur :: ls).map S).map D.str) :: g)
  have g2 := @get_new2 h (.lst ts) (.lst (((cur :: ls).map S).map D.str)) g
  have g3 := @get_new2 h (.lst []) (.lst (((cur :: ls).map S).map D.str)) []
  have sn := @set_new h (.lst ts) (.lst (ts ++ [endD (cur :: ls).length la.length])) (.lst (((cur :: ls).map S).map D.str) :: g)
  have tsl : ts.length < 1000000 := by omega
  have sg : ∀ h, splitG (.str (S (jn cur ls))) [.str ("\n" : Str)] h = some (.ref h.length, h ++ [.lst (((cur :: ls).map S).map D.str)]) := fun h => by
    rw [split_s ⟨rfl, hs⟩, sp]
  have hx : (h ++ [Ob.lst []]).length = h.length + 1 := by simp
  have hy : (h ++ [Ob.lst []]) ++ [.lst (((cur :: ls).map S).map D.str)] = h ++ .lst [] :: .lst (((cur :: ls).map S).map D.str) :: [] := by simp
  unfold m_tokens b_tokens
  rw [List.nil_append] at t
  unfold endD at sn ⊢
  have z : ((la.length + 1 : Nat) : Int) = (la.length : Int) + 1 := by omega
  rw [z] at sn ⊢
  generalize hgen : ((cur :: ls).map S).map D.str = L at *
  generalize hgen2 : S (jn cur ls) = u at *
  generalize hgen3 : (((cur :: ls).length : Nat) : Int) = nn at *
  clear hgen hgen2 hgen3 hla tj nj z ht hp hl tl lal
  have mf : mFor (iE 1 (mCons (mVar 2) mNil)) (PM.gTup 2 (PM.gCons (gN 3) (PM.gCons (gN 4) PM.gNil))) L_tokens_1 [some (.str u), some (.ref h.length), some (.ref (h.length + 1)), none, none] (h ++ .lst [] :: .lst L :: []) = .nx [some (.str u), some (.ref h.length), some (.ref (h.length + 1)), y3, y4] (h ++ .lst ts :: .lst L :: g) := by
    rw [mFor_ok (xs := enumDs 1 L) (G := fun h' => h'[h.length + 1]? = some (.lst L)) (h' := h ++ .lst [] :: .lst L :: []) (by
      clear t sn
      walk_at "pm")]
    exact t
  clear t g3
  walk_at "pm"
end K00
end
section
set_option Elab.async false
set_option linter.all false
set_option maxRecDepth 100000
set_option maxHeartbeats 1000000
namespace K00
open PySem L2 PM TX
local macro_rules | `(tactic| walk_at "pm") => `(tactic| simp only [bind_ok, toS_ok, seq_nx, seq_rt, seq_bk, seq_ct, seq_exc, bind_exc, toS_exc, mSeq_ap, mNext_ap, mSet_ap, kSet_ap, mAsg_ap, kAsg_ap, ofS_some, gN_ap, gTup_ap, gCons_ap, gNil_ap, mDrop_ap, kDrop_ap, mRet_ap, mRetN_ap, mIfS_ap, kIf_t, kIf_f, mBreak_ap, mCont_ap, mBad_ap, mAug_ap, kAug_ap, mVar_ap, mC_ap, m1_ap, k1_ap, m2_ap, k2_ap, k2'_ap, ofO_some, mNil_ap, mCons_ap, kC_ap, kC'_ap, mCall_ap, mB_ap, kB_ap, mMeth_ap, kM_ap, kM'_ap, mTest_ap, kBl_ap, mNot_ap, kNot_ap, mAnd_ap, kAnd_t, kAnd_f, mOr_ap, kOr_t, kOr_f, mIfE_ap, kIfE_t, kIfE_f, mAndV_ap, kAndV_t, kAndV_f, mOrV_ap, kOrV_t, kOrV_f, mNotV_ap, kNotV_ap, mTup_ap, kTup_ap, mLst_ap, kLst_ap, mNoPart_ap, mPart_ap, kInt_ap, mSl_ap, kSl1_ap, kSl2_ap, kSl3_ap, mChain_ap, kCh0_ap, kCh1_ap, kCh2_t, kCh2_f, kCh3_ap, mPutD_ap, kP1_ap, kP2_ap, kP3_ap, runDef_ap, fin_nx, fin_rt, fin_exc, mYes_ap, add_ii, iadd_ii, add_ss, sub_ii, mul_ii, mul_si, mod_ii, fdiv_ii, pow_ii, neg_i, ord_ii, ord_ss, eq_ii, ne_ii, eq_ss, ne_ss, is_non, isn_non, int_i, len_s, len_t, min_ii, sl_s, in_c, nin_c, split_s, str1_ss, find4_s, ty_str, ord_c, iR1_ap, itR1_i, iS_ap, itS_s, iT_ap, itT_t, iE_ap, oD_some, len_r, oLen_l, oLen_r, oKey_s, it_ref, oItem_d, oItem_l, oItem_r, it_tup, oC_some, it_str, keyD_s, keyD_i, app_r, oApp_l, ext_r, oExt_l, ty_ref, oTy_l, isi_ref, oIsi_l, put_ref, oPut_d, oPutK_s, oBls_s, all_r, oAll_l, tup_r, oTup_l, itE_r, oEnum_l, List.map_cons, List.map_nil, List.length_cons, List.length_nil, List.replicate, List.cons_append, List.nil_append, List.set_cons_zero, List.set_cons_succ, List.getElem?_cons_zero, List.getElem?_cons_succ, Nat.reduceSub, Nat.reduceAdd, Nat.reduceLeDiff, Nat.reduceLT,  cond_true, cond_false, if_true, if_false, ite_true, ite_false, Bool.false_eq_true, reduceIte, Nat.zero_add, Option.bind_some, ne_eq, Int.reduceEq, not_false_eq_true, not_true_eq_false, decide_true, decide_false, Bool.not_true, Bool.not_false, *])

/-! a text read in one pass -/
inductive TextT : Bool → List Nat → Nat × Nat → List D → Prop
  | nil {b : Bool} {p : Nat × Nat} : TextT b [] p []
  | nl {b : Bool} {l : List Nat} {p : Nat × Nat} {ts : List D} (h : TextT false l (p.1 + 1, 0) ts) : TextT b (10 :: l) p ts
  | sp {l : List Nat} {p : Nat × Nat} {ts : List D} (h : TextT false l (p.1, p.2 + 1) ts) : TextT false (32 :: l) p ts
  | com {l : List Nat} {p : Nat × Nat} {ts : List D} (h : TextT true l (p.1, p.2 + 1) ts) : TextT false (35 :: l) p ts
  | ch {c : Nat} {l : List Nat} {p : Nat × Nat} {ts : List D} (n : c ≠ 10) (h : TextT true l (p.1, p.2 + 1) ts) : TextT true (c :: l) p ts
  | tok {w l t : List Nat} {k : Str} {p : Nat × Nat} {ts : List D} (hw : Tok w k t) (hr : hdOk w l = true) (h : TextT false l (p.1, p.2 + w.length) ts) : TextT false (w ++ l) p (tokD k t p.1 p.2 :: ts)
theorem hd_jn {w cur : List Nat} {ls : List (List Nat)} (h : hdOk w (jn cur ls) = true) : hdOk w cur = true := by
  cases cur with
  | nil => rfl
  | cons c cur => cases ls <;> exact h
theorem text_lines {b : Bool} {l : List Nat} {p : Nat × Nat} {ts : List D} (h : TextT b l p ts) :
    ∃ cur ls t1 t2, l = jn cur ls ∧ (∀ q ∈ cur :: ls, 10 ∉ q) ∧ (if b = true then t1 = [] else RowT p.1 cur p.2 t1) ∧ LinesT (p.1 + 1) ls t2 ∧ ts = t1 ++ t2 := by
  induction h with
  | nil => exact ⟨[], [], [], [], rfl, by simp, by split; rfl; exact .nil, .nil, rfl⟩
  | @nl b l p ts h ih =>
    obtain ⟨cur, ls, t1, t2, e, hp, hr, hl, et⟩ := ih
    exact ⟨[], cur :: ls, [], ts, by rw [e]; rfl, fun q hq => by
      rcases List.mem_cons.mp hq with rfl | hq
      · simp
      · exact hp q hq, by split; rfl; exact .nil, by rw [et]; exact .cons hr hl, rfl⟩
  | @sp l p ts h ih =>
    obtain ⟨cur, ls, t1, t2, e, hp, hr, hl, et⟩ := ih
    exact ⟨32 :: cur, ls, t1, t2, by rw [e]; exact jn_app [32] cur ls, fun q hq => by
      rcases List.mem_cons.mp hq with rfl | hq
      · have := hp cur List.mem_cons_self; simpa using this
      · exact hp q (List.mem_cons_of_mem _ hq), .sp hr, hl, et⟩
  | @com l p ts h ih =>
    obtain ⟨cur, ls, t1, t2, e, hp, hr, hl, et⟩ := ih
    have hr : t1 = [] := hr
    exact ⟨35 :: cur, ls, t1, t2, by rw [e]; exact jn_app [35] cur ls, fun q hq => by
      rcases List.mem_cons.mp hq with rfl | hq
      · have := hp cur List.mem_cons_self; simpa using this
      · exact hp q (List.mem_cons_of_mem _ hq), by rw [hr]; exact .hash, hl, et⟩
  | @ch c l p ts n h ih =>
    obtain ⟨cur, ls, t1, t2, e, hp, hr, hl, et⟩ := ih
    exact ⟨c :: cur, ls, t1, t2, by rw [e]; exact jn_app [c] cur ls, fun q hq => by
      rcases List.mem_cons.mp hq with rfl | hq
      · have := hp cur List.mem_cons_self
        simp only [List.mem_cons, not_or]
        exact ⟨fun e => n e.symm, this⟩
      · exact hp q (List.mem_cons_of_mem _ hq), hr, hl, et⟩
  | @tok w l t k p ts hw hr h ih =>
    obtain ⟨cur, ls, t1, t2, e, hp, hr2, hl, et⟩ := ih
    exact ⟨w ++ cur, ls, tokD k t p.1 p.2 :: t1, t2, by rw [e]; exact jn_app w cur ls, fun q hq => by
      rcases List.mem_cons.mp hq with rfl | hq
      · have h1 := hp cur List.mem_cons_self
        have h2 := hw.hd.2
        simp only [List.mem_append, not_or]
        exact ⟨h2, h1⟩
      · exact hp q (List.mem_cons_of_mem _ hq), .tok hw (hd_jn (by rw [← e]; exact hr)) hr2, hl, by rw [et]; rfl⟩
theorem pos_jn : ∀ (ls : List (List Nat)) (cur : List Nat) (r a : Nat), (∀ q ∈ cur :: ls, 10 ∉ q) → ∃ ini la, cur :: ls = ini ++ [la] ∧ (pos (r, a) (jn cur ls)).1 = r + ls.length ∧ (a = 0 → (pos (r, a) (jn cur ls)).2 = la.length)
  | [], cur, r, a, hp => ⟨[], cur, rfl, by show (pos (r, a) cur).1 = _; rw [pos_free _ _ (hp cur List.mem_cons_self)]; rfl, fun e => by show (pos (r, a) cur).2 = _; rw [pos_free _ _ (hp cur List.mem_cons_self), e]; simp⟩
  | q :: ls, cur, r, a, hp => by
    obtain ⟨ini, la, e, h1, h2⟩ := pos_jn ls q (r + 1) 0 (fun x hx => hp x (List.mem_cons_of_mem _ hx))
    have e2 : pos (r, a) (jn cur (q :: ls)) = pos (r + 1, 0) (jn q ls) := by
      show pos (r, a) (cur ++ 10 :: jn q ls) = _
      rw [pos_app, pos_free _ _ (hp cur List.mem_cons_self)]
      rfl
    refine ⟨cur :: ini, la, by rw [e]; rfl, ?_, fun _ => ?_⟩
    · rw [e2, h1, List.length_cons]; omega
    · rw [e2]; exact h2 rfl
/-- the tokens of a text -/
theorem tokens_text {l : List Nat} {ts : List D} {h : HP} (ht : TextT false l (1, 0) ts) (hl : l.length < 900000) :
    ∃ g, m_tokens [.str (S l)] h = .ok (.ref h.length) (h ++ .lst (ts ++ [endD (pos (1, 0) l).1 (pos (1, 0) l).2]) :: g) := by
  obtain ⟨cur, ls, t1, t2, e, hp, hr, hl2, et⟩ := text_lines ht
  obtain ⟨ini, la, e1, h1, h2⟩ := pos_jn ls cur 1 0 hp
  have h2 := h2 rfl
  have hr : RowT 1 cur 0 t1 := hr
  obtain ⟨g, t⟩ := tokens_ok (h := h) hp (by rw [← e]; exact hl) e1 (.cons hr hl2)
  refine ⟨g, ?_⟩
  rw [e, h1, h2, et]
  rw [show 1 + ls.length = (cur :: ls).length by simp; omega]
  exact t
/-! separators -/
def sepB (fin : Bool) : Bool → List Nat → Bool
  | b, [] => !b || fin
  | b, c :: l => if c = 10 then sepB fin false l else if b then sepB fin true l else if c = 32 then sepB fin false l else if c = 35 then sepB fin true l else false
theorem sep_text : ∀ {s : List Nat} {b : Bool} {p : Nat × Nat} {l : List Nat} {ts : List D}, sepB false b s = true → TextT false l (pos p s) ts → TextT b (s ++ l) p ts
  | [], b, p, l, ts, hs, h => by
    have : b = false := by simpa [sepB] using hs
    rw [this]; exact h
  | c :: s, b, p, l, ts, hs, h => by
    unfold sepB at hs
    by_cases c1 : c = 10
    · rw [if_pos c1] at hs
      have h' : TextT false l (pos (p.1 + 1, 0) s) ts := by have h := h; unfold pos at h; rw [if_pos c1] at h; exact h
      rw [c1]; exact .nl (sep_text hs h')
    · rw [if_neg c1] at hs
      have h' : TextT false l (pos (p.1, p.2 + 1) s) ts := by have h := h; unfold pos at h; rw [if_neg c1] at h; exact h
      cases b with
      | true => exact .ch c1 (sep_text hs h')
      | false =>
        simp only [Bool.false_eq_true, if_false] at hs
        by_cases c2 : c = 32
        · rw [if_pos c2] at hs; rw [c2]; exact .sp (sep_text hs h')
        · rw [if_neg c2] at hs
          by_cases c3 : c = 35
          · rw [if_pos c3] at hs; rw [c3]; exact .com (sep_text hs h')
          · rw [if_neg c3] at hs; cases hs
theorem end_text : ∀ {s : List Nat} {b : Bool} {p : Nat × Nat}, sepB true b s = true → TextT b s p []
  | [], b, p, hs => .nil
  | c :: s, b, p, hs => by
    unfold sepB at hs
    by_cases c1 : c = 10
    · rw [if_pos c1] at hs
      rw [c1]; exact .nl (end_text hs)
    · rw [if_neg c1] at hs
      cases b with
      | true => exact .ch c1 (end_text hs)
      | false =>
        simp only [Bool.false_eq_true, if_false] at hs
        by_cases c2 : c = 32
        · rw [if_pos c2] at hs; rw [c2]; exact .sp (end_text hs)
        · rw [if_neg c2] at hs
          by_cases c3 : c = 35
          · rw [if_pos c3] at hs; rw [c3]; exact .com (end_text hs)
          · rw [if_neg c3] at hs; cases hs
/-! a text as it grows -/
def Pre (P : List Nat) (ts : List D) (w : List Nat) : Prop := ∀ l us, hdOk w l = true → TextT false l (pos (1, 0) P) us → TextT false (P ++ l) (1, 0) (ts ++ us)
theorem hd_nil (l : List Nat) : hdOk [] l = true := by cases l <;> rfl
theorem Pre.sep {P : List Nat} {ts : List D} {w s : List Nat} (h : Pre P ts w) (hs : sepB false false s = true) (hh : ∀ l, hdOk w (s ++ l) = true) : Pre (P ++ s) ts [] := by
  intro l us _ ht
  rw [List.append_assoc]
  refine h _ us (hh l) (sep_text hs ?_)
  rw [pos_app] at ht
  exact ht
theorem Pre.nil {s : List Nat} (hs : sepB false false s = true) : Pre s [] [] := by
  intro l us _ ht
  exact sep_text hs ht
theorem hd_app {w v l : List Nat} (hv : v ≠ []) (h : hdOk w v = true) : hdOk w (v ++ l) = true := by
  cases v with
  | nil => exact absurd rfl hv
  | cons c v => exact h
theorem Pre.tok {P : List Nat} {ts : List D} {w v t : List Nat} {k : Str} (h : Pre P ts w) (hv : Tok v k t) (hh : hdOk w v = true) : Pre (P ++ v) (ts ++ [tokD k t (pos (1, 0) P).1 (pos (1, 0) P).2]) v := by
  intro l us hl ht
  have hv2 := hv.hd
  obtain ⟨⟨c, v', ev, _, _⟩, hn⟩ := hv2
  rw [List.append_assoc, List.append_assoc]
  refine h _ _ (hd_app (by rw [ev]; simp) hh) (.tok hv hl ?_)
  rw [pos_app, pos_free _ _ hn] at ht
  exact ht
theorem Pre.fin {P : List Nat} {ts : List D} {w s : List Nat} (h : Pre P ts w) (hs : sepB true false s = true) (hh : hdOk w s = true) : TextT false (P ++ s) (1, 0) ts := by
  have := h s [] hh (end_text hs)
  rw [List.append_nil] at this
  exact this
end K00
end
section
set_option Elab.async false
set_option linter.all false
set_option maxRecDepth 100000
set_option maxHeartbeats 1000000
namespace K00
open PySem L2 PM TX
local macro_rules | `(tactic| walk_at "pm") => `(tactic| simp only [bind_ok, toS_ok, seq_nx, seq_rt, seq_bk, seq_ct, seq_exc, bind_exc, toS_exc, mSeq_ap, mNext_ap, mSet_ap, kSet_ap, mAsg_ap, kAsg_ap, ofS_some, gN_ap, gTup_ap, gCons_ap, gNil_ap, mDrop_ap, kDrop_ap, mRet_ap, mRetN_ap, mIfS_ap, kIf_t, kIf_f, mBreak_ap, mCont_ap, mBad_ap, mAug_ap, kAug_ap, mVar_ap, mC_ap, m1_ap, k1_ap, m2_ap, k2_ap, k2'_ap, ofO_some, mNil_ap, mCons_ap, kC_ap, kC'_ap, mCall_ap, mB_ap, kB_ap, mMeth_ap, kM_ap, kM'_ap, mTest_ap, kBl_ap, mNot_ap, kNot_ap, mAnd_ap, kAnd_t, kAnd_f, mOr_ap, kOr_t, kOr_f, mIfE_ap, kIfE_t, kIfE_f, mAndV_ap, kAndV_t, kAndV_f, mOrV_ap, kOrV_t, kOrV_f, mNotV_ap, kNotV_ap, mTup_ap, kTup_ap, mLst_ap, kLst_ap, mNoPart_ap, mPart_ap, kInt_ap, mSl_ap, kSl1_ap, kSl2_ap, kSl3_ap, mChain_ap, kCh0_ap, kCh1_ap, kCh2_t, kCh2_f, kCh3_ap, mPutD_ap, kP1_ap, kP2_ap, kP3_ap, runDef_ap, fin_nx, fin_rt, fin_exc, mYes_ap, add_ii, iadd_ii, add_ss, sub_ii, mul_ii, mul_si, mod_ii, fdiv_ii, pow_ii, neg_i, ord_ii, ord_ss, eq_ii, ne_ii, eq_ss, ne_ss, is_non, isn_non, int_i, len_s, len_t, min_ii, sl_s, in_c, nin_c, split_s, str1_ss, find4_s, ty_str, ord_c, iR1_ap, itR1_i, iS_ap, itS_s, iT_ap, itT_t, iE_ap, oD_some, len_r, oLen_l, oLen_r, oKey_s, it_ref, oItem_d, oItem_l, oItem_r, it_tup, oC_some, it_str, keyD_s, keyD_i, app_r, oApp_l, ext_r, oExt_l, ty_ref, oTy_l, isi_ref, oIsi_l, put_ref, oPut_d, oPutK_s, oBls_s, all_r, oAll_l, tup_r, oTup_l, itE_r, oEnum_l, List.map_cons, List.map_nil, List.length_cons, List.length_nil, List.replicate, List.cons_append, List.nil_append, List.set_cons_zero, List.set_cons_succ, List.getElem?_cons_zero, List.getElem?_cons_succ, Nat.reduceSub, Nat.reduceAdd, Nat.reduceLeDiff, Nat.reduceLT,  cond_true, cond_false, if_true, if_false, ite_true, ite_false, Bool.false_eq_true, reduceIte, Nat.zero_add, Option.bind_some, ne_eq, Int.reduceEq, not_false_eq_true, not_true_eq_false, decide_true, decide_false, Bool.not_true, Bool.not_false, *])

/-! lists that are the same -/
theorem strOk_S {l : List Nat} (h : l.all (fun c => decide (c < 1114112)) = true) : PyData.strOk (S l) = true := by
  unfold PyData.strOk
  simpa using h
def TokLike (d : D) : Prop := ∃ (k t : List Nat) (i j : Int), k.all (fun c => decide (c < 1114112)) = true ∧ t.all (fun c => decide (c < 1114112)) = true ∧ d = .tup [.str (S k), .str (S t), .int i, .int j]
theorem py_all {h : HP} : ∀ ds : List D, (∀ d ∈ ds, TokLike d) → ∃ ps, ds.mapM (toPy 59 h) = some ps ∧ PyData.canLayAll0 ps = true ∧ PyData.depthAll ps ≤ 1
  | [], _ => ⟨[], rfl, rfl, by simp [PyData.depthAll]⟩
  | d :: ds, hd => by
    obtain ⟨ps, e, h1, h2⟩ := py_all ds (fun x hx => hd x (List.mem_cons_of_mem _ hx))
    obtain ⟨k, t, i, j, hk, ht, rfl⟩ := hd d List.mem_cons_self
    refine ⟨.tuple [.str (S k), .str (S t), .int i, .int j] :: ps, ?_, ?_, ?_⟩
    · rw [List.mapM_cons, e]; rfl
    · simp only [PyData.canLayAll0, PyData.canLay0, strOk_S hk, strOk_S ht, h1, Bool.and_true]
    · simp only [PyData.depthAll, PyData.depth]; omega
theorem py_strs {h : HP} : ∀ ds : List (List Nat), (∀ d ∈ ds, d.all (fun c => decide (c < 1114112)) = true) → ∃ ps, ((ds.map S).map D.str).mapM (toPy 59 h) = some ps ∧ PyData.canLayAll0 ps = true ∧ PyData.depthAll ps ≤ 1
  | [], _ => ⟨[], rfl, rfl, by simp [PyData.depthAll]⟩
  | d :: ds, hd => by
    obtain ⟨ps, e, h1, h2⟩ := py_strs ds (fun x hx => hd x (List.mem_cons_of_mem _ hx))
    have hk := hd d List.mem_cons_self
    refine ⟨.str (S d) :: ps, ?_, ?_, ?_⟩
    · rw [List.map_cons, List.map_cons, List.mapM_cons, e]; rfl
    · simp only [PyData.canLayAll0, PyData.canLay0, strOk_S hk, h1, Bool.and_true]
    · simp only [PyData.depthAll, PyData.depth]; omega
theorem eq_toks {h : HP} {i j : Nat} {ds : List D} (hi : h[i]? = some (.lst ds)) (hj : h[j]? = some (.lst ds)) (hd : ∀ d ∈ ds, TokLike d) : eqB (.ref i) (.ref j) h = some true := by
  obtain ⟨ps, e, h1, h2⟩ := py_all (h := h) ds hd
  have e1 : toPy 60 h (.ref i) = some (.list ps) := by
    show (match h[i]? with | some (.lst xs) => (xs.mapM (toPy 59 h)).map PyData.list | some (.rdl xs) => (xs.mapM (toPy 59 h)).map PyData.list | _ => none) = _
    rw [hi]
    show (ds.mapM (toPy 59 h)).map PyData.list = _
    rw [e]; rfl
  have e2 : toPy 60 h (.ref j) = some (.list ps) := by
    show (match h[j]? with | some (.lst xs) => (xs.mapM (toPy 59 h)).map PyData.list | some (.rdl xs) => (xs.mapM (toPy 59 h)).map PyData.list | _ => none) = _
    rw [hj]
    show (ds.mapM (toPy 59 h)).map PyData.list = _
    rw [e]; rfl
  have cl : PyData.canLay0 (.list ps) = true := by simp only [PyData.canLay0, h1]
  have sh : SeqAt.shaped (.list ps) = true := by
    unfold SeqAt.shaped
    rw [cl, Bool.true_and]
    refine decide_eq_true ?_
    simp only [PyData.depth]; omega
  show (match toPy 60 h (.ref i), toPy 60 h (.ref j) with
    | some p, some q => if SeqAt.shaped p = true ∧ SeqAt.shaped q = true then some (PyData.eqv p q) else none
    | _, _ => none) = _
  rw [e1, e2]
  dsimp only
  rw [if_pos ⟨sh, sh⟩, SeqAt.eqv_refl _ cl]
theorem eq_strs {h : HP} {ds : List (List Nat)} (hd : ∀ d ∈ ds, d.all (fun c => decide (c < 1114112)) = true) : eqB (.tup ((ds.map S).map D.str)) (.tup ((ds.map S).map D.str)) h = some true := by
  obtain ⟨ps, e, h1, h2⟩ := py_strs (h := h) ds hd
  have e1 : toPy 60 h (.tup ((ds.map S).map D.str)) = some (.tuple ps) := by
    show (((ds.map S).map D.str).mapM (toPy 59 h)).map PyData.tuple = _
    rw [e]; rfl
  have cl : PyData.canLay0 (.tuple ps) = true := by simp only [PyData.canLay0, h1]
  have sh : SeqAt.shaped (.tuple ps) = true := by
    unfold SeqAt.shaped
    rw [cl, Bool.true_and]
    refine decide_eq_true ?_
    simp only [PyData.depth]; omega
  show (match toPy 60 h (.tup ((ds.map S).map D.str)), toPy 60 h (.tup ((ds.map S).map D.str)) with
    | some p, some q => if SeqAt.shaped p = true ∧ SeqAt.shaped q = true then some (PyData.eqv p q) else none
    | _, _ => none) = _
  rw [e1]
  dsimp only
  rw [if_pos ⟨sh, sh⟩, SeqAt.eqv_refl _ cl]
/-! words of the law -/
def ls (s : String) : List Nat := s.toList.map Char.toNat
def pc (k : Str) (w : List Nat) : List Nat := if k = ("text" : Str) then 34 :: w ++ [34] else w
structure WordOk (k w : List Nat) : Prop where
  tok : Tok (pc (S k) w) (S k) w
  len : w.length ≤ 40
  sk : k.all (fun c => decide (c < 1114112)) = true
  sw : w.all (fun c => decide (c < 1114112)) = true
def nameB (w : List Nat) : Bool := match w with
  | [] => false
  | c :: r => decide (c ∈ LET) && r.all isWC && !decide (c :: r ∈ KW)
def kwB (w : List Nat) : Bool := match w with
  | [] => false
  | c :: r => decide (c ∈ LET) && r.all isWC && decide (c :: r ∈ KW)
def smallB (w : List Nat) : Bool := decide (w.length ≤ 40) && w.all (fun c => decide (c < 1114112))
theorem word_name {w : List Nat} (h : nameB w = true) (h2 : smallB w = true) : WordOk (ls "name") w := by
  unfold smallB at h2
  rw [Bool.and_eq_true] at h2
  cases w with
  | nil => cases h
  | cons c r =>
    simp only [nameB, Bool.and_eq_true, decide_eq_true_eq, List.all_eq_true, Bool.not_eq_true', decide_eq_false_iff_not] at h
    have t := Tok.word h.1.1 h.1.2
    rw [if_neg h.2] at t
    refine ⟨?_, of_decide_eq_true h2.1, by decide, h2.2⟩
    have e : pc (S (ls "name")) (c :: r) = c :: r := if_neg (by decide)
    rw [e]
    exact t
theorem word_kw {w : List Nat} (h : kwB w = true) (h2 : smallB w = true) : WordOk (ls "keyword") w := by
  unfold smallB at h2
  rw [Bool.and_eq_true] at h2
  cases w with
  | nil => cases h
  | cons c r =>
    simp only [kwB, Bool.and_eq_true, decide_eq_true_eq, List.all_eq_true] at h
    have t := Tok.word h.1.1 h.1.2
    rw [if_pos h.2] at t
    refine ⟨?_, of_decide_eq_true h2.1, by decide, h2.2⟩
    have e : pc (S (ls "keyword")) (c :: r) = c :: r := if_neg (by decide)
    rw [e]
    exact t
theorem word_num {w : List Nat} (h : w.all (fun c => decide (c ∈ DIG)) = true) (hn : numOk w = true) (h2 : smallB w = true) : WordOk (ls "number") w := by
  unfold smallB at h2
  rw [Bool.and_eq_true] at h2
  refine ⟨?_, of_decide_eq_true h2.1, by decide, h2.2⟩
  have e : pc (S (ls "number")) w = w := if_neg (by decide)
  rw [e]
  exact Tok.num (by simpa using h) hn
theorem word_text {w : List Nat} (h : w.all (fun c => okC c && decide (c ≠ 34)) = true) (h2 : smallB w = true) : WordOk (ls "text") w := by
  unfold smallB at h2
  rw [Bool.and_eq_true] at h2
  refine ⟨?_, of_decide_eq_true h2.1, by decide, h2.2⟩
  have e : pc (S (ls "text")) w = 34 :: w ++ [34] := if_pos (by decide)
  rw [e]
  exact Tok.text (by simpa using h) (of_decide_eq_true h2.1)
theorem word_sign {w : List Nat} (h : w ∈ SGL) (h2 : smallB w = true) : WordOk (ls "sign") w := by
  unfold smallB at h2
  rw [Bool.and_eq_true] at h2
  refine ⟨?_, of_decide_eq_true h2.1, by decide, h2.2⟩
  have e : pc (S (ls "sign")) w = w := if_neg (by decide)
  rw [e]
  exact Tok.sign h
def NM : List (List Nat) := ["a", "X1", "go_", "a_b", "ofx", "words", "notx", "sums", "z9", "And", "or1", "nexts", "True"].map ls
def NU : List (List Nat) := ["0", "7", "10", "1000000000000", "999999999999", "12345", "90"].map ls
def TE : List (List Nat) := (["", "a", "# no", "x y", "12", "not; (", "~"].map ls) ++ [List.replicate 40 97]
def S3 : List (List Nat) := ["=", "<", "<="].map ls
def AL : List (List Nat) := ["(", ")", "[", "]", ",", ";", ".", "*", "+", "-"].map ls
theorem nm_ok : ∀ w ∈ NM, WordOk (ls "name") w := fun w hw => word_name ((by decide : ∀ w ∈ NM, nameB w = true) w hw) ((by decide : ∀ w ∈ NM, smallB w = true) w hw)
theorem kw_ok : ∀ w ∈ KW, WordOk (ls "keyword") w := fun w hw => word_kw ((by decide : ∀ w ∈ KW, kwB w = true) w hw) ((by decide : ∀ w ∈ KW, smallB w = true) w hw)
theorem te_ok : ∀ w ∈ TE, WordOk (ls "text") w := fun w hw => word_text ((by decide : ∀ w ∈ TE, w.all (fun c => okC c && decide (c ≠ 34)) = true) w hw) ((by decide : ∀ w ∈ TE, smallB w = true) w hw)
theorem s3_ok : ∀ w ∈ S3, WordOk (ls "sign") w := fun w hw => word_sign ((by decide : ∀ w ∈ S3, w ∈ SGL) w hw) ((by decide : ∀ w ∈ S3, smallB w = true) w hw)
theorem al_ok : ∀ w ∈ AL, WordOk (ls "sign") w := fun w hw => word_sign ((by decide : ∀ w ∈ AL, w ∈ SGL) w hw) ((by decide : ∀ w ∈ AL, smallB w = true) w hw)
theorem numOk_of {w : List Nat} (n : Nat) (e : w = TL.numL n) (hc : w.headD 48 ≠ 48) (hl : w.length ≤ 13) (hn : n ≤ 1000000000000) : numOk w = true := by
  have hi : PySem.intText? (S w) = some (n : Int) := by
    have : S w = Str.ofString (toString ((n : Nat) : Int)) := TL.ext_tl (by rw [TL.tl_num]; exact e)
    rw [this]
    exact TL.int_num (by rw [← e]; omega)
  cases w with
  | nil => exact absurd rfl hc
  | cons c r =>
    have hc' : ¬ c = 48 := hc
    unfold numOk
    dsimp only
    rw [if_neg hc', hi]
    dsimp only
    rw [Bool.and_eq_true]
    exact ⟨decide_eq_true hl, decide_eq_true (by omega)⟩
theorem nu_num : ∀ w ∈ NU, numOk w = true := by
  intro w hw
  have hw : w ∈ [ls "0", ls "7", ls "10", ls "1000000000000", ls "999999999999", ls "12345", ls "90"] := hw
  simp only [List.mem_cons, List.not_mem_nil, or_false] at hw
  rcases hw with rfl | rfl | rfl | rfl | rfl | rfl | rfl
  · decide
  · exact numOk_of 7 (by decide +kernel) (by decide) (by decide) (by omega)
  · exact numOk_of 10 (by decide +kernel) (by decide) (by decide) (by omega)
  · exact numOk_of 1000000000000 (by decide +kernel) (by decide) (by decide) (by omega)
  · exact numOk_of 999999999999 (by decide +kernel) (by decide) (by decide) (by omega)
  · exact numOk_of 12345 (by decide +kernel) (by decide) (by decide) (by omega)
  · exact numOk_of 90 (by decide +kernel) (by decide) (by decide) (by omega)
theorem nu_ok : ∀ w ∈ NU, WordOk (ls "number") w := fun w hw => word_num ((by decide : ∀ w ∈ NU, w.all (fun c => decide (c ∈ DIG)) = true) w hw) (nu_num w hw) ((by decide : ∀ w ∈ NU, smallB w = true) w hw)
end K00
end
section
set_option Elab.async false
set_option linter.all false
set_option maxRecDepth 100000
set_option maxHeartbeats 1000000
namespace K00
open PySem L2 PM TX
local macro_rules | `(tactic| walk_at "pm") => `(tactic| simp only [bind_ok, toS_ok, seq_nx, seq_rt, seq_bk, seq_ct, seq_exc, bind_exc, toS_exc, mSeq_ap, mNext_ap, mSet_ap, kSet_ap, mAsg_ap, kAsg_ap, ofS_some, gN_ap, gTup_ap, gCons_ap, gNil_ap, mDrop_ap, kDrop_ap, mRet_ap, mRetN_ap, mIfS_ap, kIf_t, kIf_f, mBreak_ap, mCont_ap, mBad_ap, mAug_ap, kAug_ap, mVar_ap, mC_ap, m1_ap, k1_ap, m2_ap, k2_ap, k2'_ap, ofO_some, mNil_ap, mCons_ap, kC_ap, kC'_ap, mCall_ap, mB_ap, kB_ap, mMeth_ap, kM_ap, kM'_ap, mTest_ap, kBl_ap, mNot_ap, kNot_ap, mAnd_ap, kAnd_t, kAnd_f, mOr_ap, kOr_t, kOr_f, mIfE_ap, kIfE_t, kIfE_f, mAndV_ap, kAndV_t, kAndV_f, mOrV_ap, kOrV_t, kOrV_f, mNotV_ap, kNotV_ap, mTup_ap, kTup_ap, mLst_ap, kLst_ap, mNoPart_ap, mPart_ap, kInt_ap, mSl_ap, kSl1_ap, kSl2_ap, kSl3_ap, mChain_ap, kCh0_ap, kCh1_ap, kCh2_t, kCh2_f, kCh3_ap, mPutD_ap, kP1_ap, kP2_ap, kP3_ap, runDef_ap, fin_nx, fin_rt, fin_exc, mYes_ap, add_ii, iadd_ii, add_ss, sub_ii, mul_ii, mul_si, mod_ii, fdiv_ii, pow_ii, neg_i, ord_ii, ord_ss, eq_ii, ne_ii, eq_ss, ne_ss, is_non, isn_non, int_i, len_s, len_t, min_ii, sl_s, in_c, nin_c, split_s, str1_ss, find4_s, ty_str, ord_c, iR1_ap, itR1_i, iS_ap, itS_s, iT_ap, itT_t, iE_ap, oD_some, len_r, oLen_l, oLen_r, oKey_s, it_ref, oItem_d, oItem_l, oItem_r, it_tup, oC_some, it_str, keyD_s, keyD_i, app_r, oApp_l, ext_r, oExt_l, ty_ref, oTy_l, isi_ref, oIsi_l, put_ref, oPut_d, oPutK_s, oBls_s, all_r, oAll_l, tup_r, oTup_l, itE_r, oEnum_l, List.map_cons, List.map_nil, List.length_cons, List.length_nil, List.replicate, List.cons_append, List.nil_append, List.set_cons_zero, List.set_cons_succ, List.getElem?_cons_zero, List.getElem?_cons_succ, Nat.reduceSub, Nat.reduceAdd, Nat.reduceLeDiff, Nat.reduceLT,  cond_true, cond_false, if_true, if_false, ite_true, ite_false, Bool.false_eq_true, reduceIte, Nat.zero_add, Option.bind_some, ne_eq, Int.reduceEq, not_false_eq_true, not_true_eq_false, decide_true, decide_false, Bool.not_true, Bool.not_false, *])

theorem atI_in {xs : List D} {z : Int} (h0 : 0 ≤ z) (h1 : z < xs.length) : ∃ d ∈ xs, atI xs z = some d := by
  have hl : z.toNat < xs.length := by omega
  refine ⟨xs[z.toNat], List.getElem_mem hl, ?_⟩
  have := atI_nat (List.getElem?_eq_getElem hl)
  rw [show ((z.toNat : Nat) : Int) = z by omega] at this
  exact this
theorem menu_pk {h : HP} {i j : Nat} {row : List Int} {n : Nat} (s : St h i j row n) (menu : List D) {N : Int} (hN : (menu.length : Int) = N) (h0 : 0 < N) :
    ∃ d ∈ menu, ∃ z h2, m_u_law_pick [.ref i, .int N] (h ++ [.lst menu]) = .ok (.int z) h2 ∧ h2[h.length]? = some (.lst menu) ∧ atI menu z = some d ∧ St h2 i j row (n + 1) ∧ Fr i h h2 := by
  obtain ⟨h2, e, s2, f, -⟩ := pick_ok (s.app [.lst menu]) (m := N) (by omega)
  have r := fmod_range (pkF row n) N h0
  obtain ⟨d, hd, ha⟩ := atI_in (xs := menu) r.1 (by omega)
  have hne : h.length ≠ i := by have := get_lt s.d; omega
  exact ⟨d, hd, _, h2, e, f.at' _ _ hne get_new, ha, s2, (Fr.app i h _).trans f⟩
theorem in_map {l : List (List Nat)} {d : D} (h : d ∈ l.map fun w => D.str (S w)) : ∃ w ∈ l, d = .str (S w) := by
  obtain ⟨w, hw, e⟩ := List.mem_map.mp h
  exact ⟨w, hw, e.symm⟩
theorem get_new3 {h : HP} {o o2 o3 : Ob} {g : HP} : (h ++ o :: o2 :: o3 :: g)[h.length + 2]? = some o3 := by rw [List.getElem?_append_right (by omega)]; simp
theorem keys_ok {h : HP} : m_u_law_keywords [] h = .ok (.ref (h.length + 2)) (h ++ [.lst ((KW.take 13).map fun w => .str (S w)), .lst ((KW.drop 13).map fun w => .str (S w)), .lst (KW.map fun w => .str (S w))]) := by
  unfold m_u_law_keywords b_u_law_keywords
  have ea : ((KW.take 13).map fun w => D.str (S w)) = [.str "event", .str "def", .str "watch", .str "number", .str "word", .str "implies", .str "or", .str "and", .str "since", .str "until", .str "not", .str "some", .str "all"] := rfl
  have eb : ((KW.drop 13).map fun w => D.str (S w)) = [.str "before", .str "next", .str "once", .str "held", .str "soon", .str "kept", .str "count", .str "sum", .str "least", .str "most", .str "of", .str "true", .str "false"] := rfl
  have ad : addG (.ref h.length) (.ref (h.length + 1)) (h ++ [.lst ((KW.take 13).map fun w => .str (S w))] ++ [.lst ((KW.drop 13).map fun w => .str (S w))]) = some (.ref (h.length + 2), h ++ [.lst ((KW.take 13).map fun w => .str (S w)), .lst ((KW.drop 13).map fun w => .str (S w)), .lst (KW.map fun w => .str (S w))]) := by
    have e0 : (h ++ [Ob.lst ((KW.take 13).map fun w => .str (S w))] ++ [.lst ((KW.drop 13).map fun w => .str (S w))]) = h ++ [.lst ((KW.take 13).map fun w => .str (S w)), .lst ((KW.drop 13).map fun w => .str (S w))] := by simp
    rw [e0]
    unfold addG
    dsimp only
    rw [get_new, get_new2]
    dsimp only
    rw [if_pos (by decide)]
    simp
  have le : (h ++ [Ob.lst ((KW.take 13).map fun w => .str (S w))]).length = h.length + 1 := by simp
  rw [ea, eb] at ad
  rw [ea] at le
  rw [ea, eb]
  clear ea eb
  generalize h ++ [Ob.lst [.str "event", .str "def", .str "watch", .str "number", .str "word", .str "implies", .str "or", .str "and", .str "since", .str "until", .str "not", .str "some", .str "all"], .lst [.str "before", .str "next", .str "once", .str "held", .str "soon", .str "kept", .str "count", .str "sum", .str "least", .str "most", .str "of", .str "true", .str "false"], .lst (KW.map fun w => .str (S w))] = hf at *
  walk_at "pm"
theorem word_ok {h : HP} {i j : Nat} {row : List Int} {n : Nat} (s : St h i j row n) :
    ∃ k w h' n', m_u_law_word [.ref i] h = .ok (.tup [.str (S k), .str (S w)]) h' ∧ WordOk k w ∧ St h' i j row n' ∧ Fr i h h' := by
  obtain ⟨h1, e, s1, f1, -⟩ := pick_ok s (m := 9) (by omega)
  have r := fmod_range (pkF row n) 9 (by omega)
  generalize hv : (pkF row n).fmod 9 = v at *
  clear hv
  unfold m_u_law_word b_u_law_word
  by_cases c1 : v < 2
  · obtain ⟨d, hd, z, h2, pk, gt, ha, s2, f2⟩ := menu_pk s1 (NM.map fun w => .str (S w)) (N := 13) rfl (by omega)
    obtain ⟨w, hw, rfl⟩ := in_map hd
    refine ⟨ls "name", w, h2, n + 1 + 1, ?_, nm_ok w hw, s2, f1.trans f2⟩
    have c1' : (v < 2) = True := eq_true c1
    have : (NM.map fun w => D.str (S w)) = [.str "a", .str "X1", .str "go_", .str "a_b", .str "ofx", .str "words", .str "notx", .str "sums", .str "z9", .str "And", .str "or1", .str "nexts", .str "True"] := rfl
    rw [this] at pk gt ha
    clear this hd r c1 s s1 s2 f1 f2
    walk_at "pm"
    rfl
  have c1' : (v < 2) = False := eq_false c1
  by_cases c2 : v = 2
  · obtain ⟨d, hd, z, h2, pk, gt, ha, s2, f2⟩ := menu_pk s1 (NU.map fun w => .str (S w)) (N := 7) rfl (by omega)
    obtain ⟨w, hw, rfl⟩ := in_map hd
    refine ⟨ls "number", w, h2, n + 1 + 1, ?_, nu_ok w hw, s2, f1.trans f2⟩
    have c2' : decide (v = 2) = true := decide_eq_true c2
    have : (NU.map fun w => D.str (S w)) = [.str "0", .str "7", .str "10", .str "1000000000000", .str "999999999999", .str "12345", .str "90"] := rfl
    rw [this] at pk gt ha
    clear this hd r c1 c2 s s1 s2 f1 f2
    walk_at "pm"
    rfl
  have c2' : decide (v = 2) = false := decide_eq_false c2
  by_cases c3 : v = 3
  · obtain ⟨d, hd, z, h2, pk, gt, ha, s2, f2⟩ := menu_pk s1 (TE.map fun w => .str (S w)) (N := 8) rfl (by omega)
    obtain ⟨w, hw, rfl⟩ := in_map hd
    refine ⟨ls "text", w, h2, n + 1 + 1, ?_, te_ok w hw, s2, f1.trans f2⟩
    have c3' : decide (v = 3) = true := decide_eq_true c3
    have : (TE.map fun w => D.str (S w)) = [.str "", .str "a", .str "# no", .str "x y", .str "12", .str "not; (", .str "~", .str (Txt.mul "a" 40)] := rfl
    rw [this] at pk gt ha
    have mu : ∀ h, mulG (.str ("a" : Str)) (.int 40) h = some (.str (Txt.mul "a" 40), h) := fun h => mul_si ⟨by omega, by omega, by decide⟩
    clear this hd r c1 c2 c3 s s1 s2 f1 f2
    walk_at "pm"
    rfl
  have c3' : decide (v = 3) = false := decide_eq_false c3
  by_cases c4 : v < 6
  · obtain ⟨h2, pk, s2, f2, -⟩ := pick_ok (s1.app [.lst ((KW.take 13).map fun w => .str (S w)), .lst ((KW.drop 13).map fun w => .str (S w)), .lst (KW.map fun w => .str (S w))]) (m := 26) (by omega)
    have r2 := fmod_range (pkF row (n + 1)) 26 (by omega)
    obtain ⟨d, hd, ha⟩ := atI_in (xs := KW.map fun w => .str (S w)) r2.1 r2.2
    obtain ⟨w, hw, rfl⟩ := in_map hd
    have hne : h1.length + 2 ≠ i := by have := get_lt s1.d; omega
    have gt := f2.at' _ _ hne get_new3
    have f3 := (Fr.app i h1 [.lst ((KW.take 13).map fun w => .str (S w)), .lst ((KW.drop 13).map fun w => .str (S w)), .lst (KW.map fun w => .str (S w))]).trans f2
    refine ⟨ls "keyword", w, h2, n + 1 + 1, ?_, kw_ok w hw, s2, f1.trans f3⟩
    have c4' : (v < 6) = True := eq_true c4
    have kk := @keys_ok h1
    generalize (h1 ++ [Ob.lst ((KW.take 13).map fun w => D.str (S w)), .lst ((KW.drop 13).map fun w => .str (S w)), .lst (KW.map fun w => .str (S w))]) = hk at *
    generalize (KW.map fun w => D.str (S w)) = kwl at *
    clear hd r r2 c1 c2 c3 c4 s s1 s2 f1 f2 f3 hne
    walk_at "pm"
    rfl
  have c4' : (v < 6) = False := eq_false c4
  by_cases c5 : v = 6
  · obtain ⟨d, hd, z, h2, pk, gt, ha, s2, f2⟩ := menu_pk s1 (S3.map fun w => .str (S w)) (N := 3) rfl (by omega)
    obtain ⟨w, hw, rfl⟩ := in_map hd
    refine ⟨ls "sign", w, h2, n + 1 + 1, ?_, s3_ok w hw, s2, f1.trans f2⟩
    have c5' : decide (v = 6) = true := decide_eq_true c5
    have : (S3.map fun w => D.str (S w)) = [.str "=", .str "<", .str "<="] := rfl
    rw [this] at pk gt ha
    clear this hd r c1 c2 c3 c4 c5 s s1 s2 f1 f2
    walk_at "pm"
    rfl
  have c5' : decide (v = 6) = false := decide_eq_false c5
  obtain ⟨d, hd, z, h2, pk, gt, ha, s2, f2⟩ := menu_pk s1 (AL.map fun w => .str (S w)) (N := 10) rfl (by omega)
  obtain ⟨w, hw, rfl⟩ := in_map hd
  refine ⟨ls "sign", w, h2, n + 1 + 1, ?_, al_ok w hw, s2, f1.trans f2⟩
  have : (AL.map fun w => D.str (S w)) = [.str "(", .str ")", .str "[", .str "]", .str ",", .str ";", .str ".", .str "*", .str "+", .str "-"] := rfl
  rw [this] at pk gt ha
  clear this hd r c1 c2 c3 c4 c5 s s1 s2 f1 f2
  walk_at "pm"
  rfl
theorem alone_ok {k w : List Nat} {h : HP} : m_u_law_alone [.str (S k), .str (S w)] h = .ok (.bl (decide (S k = ("text" : Str)) || decide (w ∈ AL))) h := by
  unfold m_u_law_alone b_u_law_alone
  have it : ∀ h, inG false (.str (S w)) (.tup [.str "(", .str ")", .str "[", .str "]", .str ",", .str ";", .str ".", .str "*", .str "+", .str "-"]) h = some (.bl (decide (w ∈ AL)), h) := fun h => by
    have : [D.str "(", .str ")", .str "[", .str "]", .str ",", .str ";", .str ".", .str "*", .str "+", .str "-"] = (AL.map S).map D.str := rfl
    rw [this, inG_t, memS]
  cases e1 : decide (S k = ("text" : Str)) <;> walk_at "pm" <;> rfl
def BA : List (List Nat) := [" ", "\n", "  ", "# a _ comment \" here!\n"].map ls
def BB : List (List Nat) := ["", "", "", "\n", "#\n ", "\n   ", "#x\n\n"].map ls
theorem ba_ok : ∀ w ∈ BA, sepB false false w = true ∧ w.length ≤ 30 ∧ (w.headD 0 = 32 ∨ w.headD 0 = 10 ∨ w.headD 0 = 35) ∧ w ≠ [] := by decide
theorem bb_ok : ∀ w ∈ BB, sepB false false w = true ∧ w.length ≤ 30 := by decide
theorem sepB_app : ∀ (a b : List Nat) (x : Bool), sepB false x a = true → sepB false false b = true → sepB false x (a ++ b) = true
  | [], b, x, h, h2 => by
    have : x = false := by simpa [sepB] using h
    rw [this]; exact h2
  | c :: a, b, x, h, h2 => by
    rw [List.cons_append]
    unfold sepB at h ⊢
    by_cases c1 : c = 10
    · rw [if_pos c1] at h ⊢; exact sepB_app a b _ h h2
    · rw [if_neg c1] at h ⊢
      cases x with
      | true => exact sepB_app a b true h h2
      | false =>
        simp only [Bool.false_eq_true, if_false] at h ⊢
        by_cases c2 : c = 32
        · rw [if_pos c2] at h ⊢; exact sepB_app a b _ h h2
        · rw [if_neg c2] at h ⊢
          by_cases c3 : c = 35
          · rw [if_pos c3] at h ⊢; exact sepB_app a b _ h h2
          · rw [if_neg c3] at h; cases h
theorem hd_sep {w : List Nat} {c : Nat} {l : List Nat} (h : c = 32 ∨ c = 10 ∨ c = 35) : hdOk w (c :: l) = true := by
  unfold hdOk
  dsimp only
  have h1 : isWC c = false := by rcases h with rfl | rfl | rfl <;> decide
  have h2 : decide (c ≠ 61) = true := by rcases h with rfl | rfl | rfl <;> rfl
  rw [h1, h2]
  split
  · rfl
  · cases isWC (w.headD 0) <;> rfl
theorem between_ok {h : HP} {i j : Nat} {row : List Int} {n : Nat} (s : St h i j row n) :
    ∃ b h' n', m_u_law_between [.ref i] h = .ok (.str (S b)) h' ∧ sepB false false b = true ∧ (∀ w l, hdOk w (b ++ l) = true) ∧ b.length ≤ 60 ∧ St h' i j row n' ∧ Fr i h h' := by
  obtain ⟨d, hd, z, h1, pk, gt, ha, s1, f1⟩ := menu_pk s (BA.map fun w => .str (S w)) (N := 4) rfl (by omega)
  obtain ⟨a, hw, rfl⟩ := in_map hd
  obtain ⟨d2, hd2, z2, h2, pk2, gt2, ha2, s2, f2⟩ := menu_pk s1 (BB.map fun w => .str (S w)) (N := 7) rfl (by omega)
  obtain ⟨b, hw2, rfl⟩ := in_map hd2
  obtain ⟨a1, a2, a3, a4⟩ := ba_ok a hw
  obtain ⟨b1, b2⟩ := bb_ok b hw2
  refine ⟨a ++ b, h2, n + 1 + 1, ?_, sepB_app a b false a1 b1, fun w l => ?_, by simp; omega, s2, f1.trans f2⟩
  · unfold m_u_law_between b_u_law_between
    have e1 : (BA.map fun w => D.str (S w)) = [.str " ", .str "\n", .str "  ", .str "# a _ comment \" here!\n"] := rfl
    have e2 : (BB.map fun w => D.str (S w)) = [.str "", .str "", .str "", .str "\n", .str "#\n ", .str "\n   ", .str "#x\n\n"] := rfl
    rw [e1] at pk gt ha
    rw [e2] at pk2 gt2 ha2
    have ad : ∀ h, addG (.str (S a)) (.str (S b)) h = some (.str (S (a ++ b)), h) := fun h => by
      rw [add_ss (by rw [S_len, S_len]; omega), S_app]
    clear e1 e2 hd hd2 s s1 s2 f1 f2 a1 a2 a3 a4 b1 b2
    walk_at "pm"
  · cases a with
    | nil => exact absurd rfl a4
    | cons c a => exact hd_sep a3
theorem al_hd : ∀ w ∈ AL, isWC (w.headD 0) = false ∧ w.headD 0 ≠ 61 ∧ w ≠ [60] := by decide
theorem hd_alone {k1 w1 k2 w2 : List Nat} (h : (decide (S k1 = ("text" : Str)) || decide (w1 ∈ AL)) = true ∨ (decide (S k2 = ("text" : Str)) || decide (w2 ∈ AL)) = true) : hdOk (pc (S k1) w1) (pc (S k2) w2) = true := by
  have A : ∀ {k w : List Nat}, (decide (S k = ("text" : Str)) || decide (w ∈ AL)) = true → isWC ((pc (S k) w).headD 0) = false ∧ (pc (S k) w).headD 0 ≠ 61 ∧ pc (S k) w ≠ [60] := by
    intro k w h
    unfold pc
    by_cases c : S k = ("text" : Str)
    · rw [if_pos c]
      exact ⟨(by decide : isWC 34 = false), by simp, by simp⟩
    · rw [if_neg c]
      rw [decide_eq_false c, Bool.false_or] at h
      exact al_hd w (of_decide_eq_true h)
  unfold hdOk
  generalize hv : pc (S k2) w2 = v at *
  cases v with
  | nil => rfl
  | cons c v =>
    dsimp only
    rcases h with h | h
    · obtain ⟨h1, h2, h3⟩ := A h
      rw [if_neg h3, h1]; rfl
    · obtain ⟨h1, h2, h3⟩ := A h
      rw [hv] at h1 h2
      have h1 : isWC c = false := h1
      have h2 : c ≠ 61 := h2
      split
      · exact decide_eq_true h2
      · rw [h1]; cases isWC ((pc (S k1) w1).headD 0) <;> rfl
end K00
end
section
set_option Elab.async false
set_option linter.all false
set_option maxRecDepth 100000
set_option maxHeartbeats 1000000
namespace K00
open PySem L2 PM TX
local macro_rules | `(tactic| walk_at "pm") => `(tactic| simp only [bind_ok, toS_ok, seq_nx, seq_rt, seq_bk, seq_ct, seq_exc, bind_exc, toS_exc, mSeq_ap, mNext_ap, mSet_ap, kSet_ap, mAsg_ap, kAsg_ap, ofS_some, gN_ap, gTup_ap, gCons_ap, gNil_ap, mDrop_ap, kDrop_ap, mRet_ap, mRetN_ap, mIfS_ap, kIf_t, kIf_f, mBreak_ap, mCont_ap, mBad_ap, mAug_ap, kAug_ap, mVar_ap, mC_ap, m1_ap, k1_ap, m2_ap, k2_ap, k2'_ap, ofO_some, mNil_ap, mCons_ap, kC_ap, kC'_ap, mCall_ap, mB_ap, kB_ap, mMeth_ap, kM_ap, kM'_ap, mTest_ap, kBl_ap, mNot_ap, kNot_ap, mAnd_ap, kAnd_t, kAnd_f, mOr_ap, kOr_t, kOr_f, mIfE_ap, kIfE_t, kIfE_f, mAndV_ap, kAndV_t, kAndV_f, mOrV_ap, kOrV_t, kOrV_f, mNotV_ap, kNotV_ap, mTup_ap, kTup_ap, mLst_ap, kLst_ap, mNoPart_ap, mPart_ap, kInt_ap, mSl_ap, kSl1_ap, kSl2_ap, kSl3_ap, mChain_ap, kCh0_ap, kCh1_ap, kCh2_t, kCh2_f, kCh3_ap, mPutD_ap, kP1_ap, kP2_ap, kP3_ap, runDef_ap, fin_nx, fin_rt, fin_exc, mYes_ap, add_ii, iadd_ii, add_ss, sub_ii, mul_ii, mul_si, mod_ii, fdiv_ii, pow_ii, neg_i, ord_ii, ord_ss, eq_ii, ne_ii, eq_ss, ne_ss, is_non, isn_non, int_i, len_s, len_t, min_ii, sl_s, in_c, nin_c, split_s, str1_ss, find4_s, ty_str, ord_c, iR1_ap, itR1_i, iS_ap, itS_s, iT_ap, itT_t, iE_ap, oD_some, len_r, oLen_l, oLen_r, oKey_s, it_ref, oItem_d, oItem_l, oItem_r, it_tup, oC_some, it_str, keyD_s, keyD_i, app_r, oApp_l, ext_r, oExt_l, ty_ref, oTy_l, isi_ref, oIsi_l, put_ref, oPut_d, oPutK_s, oBls_s, all_r, oAll_l, tup_r, oTup_l, itE_r, oEnum_l, List.map_cons, List.map_nil, List.length_cons, List.length_nil, List.replicate, List.cons_append, List.nil_append, List.set_cons_zero, List.set_cons_succ, List.getElem?_cons_zero, List.getElem?_cons_succ, Nat.reduceSub, Nat.reduceAdd, Nat.reduceLeDiff, Nat.reduceLT,  cond_true, cond_false, if_true, if_false, ite_true, ite_false, Bool.false_eq_true, reduceIte, Nat.zero_add, Option.bind_some, ne_eq, Int.reduceEq, not_false_eq_true, not_true_eq_false, decide_true, decide_false, Bool.not_true, Bool.not_false, *])

theorem loop_inv {g : MG} {p : MS} {Inv : SD → HP → Prop} : ∀ {ds : List D} {s : SD} {h : HP}, (∀ d ∈ ds, ∀ s h, Inv s h → ∃ s1 s2 h2, g d s = some s1 ∧ p s1 h = .nx s2 h2 ∧ Inv s2 h2) → Inv s h →
    ∃ s2 h2, mLoop (fun _ => True) g p ds s h = .nx s2 h2 ∧ Inv s2 h2
  | [], s, h, _, i => ⟨s, h, mLoop_nil trivial, i⟩
  | d :: ds, s, h, st, i => by
    obtain ⟨s1, s2, h2, e1, e2, i2⟩ := st d List.mem_cons_self s h i
    obtain ⟨s3, h3, e3, i3⟩ := loop_inv (fun d hd => st d (List.mem_cons_of_mem _ hd)) i2
    exact ⟨s3, h3, by rw [mLoop_nx trivial e1 (.inl e2), e3], i3⟩
theorem loop_idx {g : MG} {p : MS} {Inv : Nat → SD → HP → Prop} : ∀ {n k : Nat} {s : SD} {h : HP}, (∀ m, k ≤ m → m < k + n → ∀ s h, Inv m s h → ∃ s1 s2 h2, g (.int (0 + (m : Int))) s = some s1 ∧ p s1 h = .nx s2 h2 ∧ Inv (m + 1) s2 h2) → Inv k s h →
    ∃ s2 h2, mLoop (fun _ => True) g p ((List.range' k n).map fun (i : Nat) => .int (0 + (i : Int))) s h = .nx s2 h2 ∧ Inv (k + n) s2 h2
  | 0, k, s, h, _, i => ⟨s, h, mLoop_nil trivial, i⟩
  | n + 1, k, s, h, st, i => by
    obtain ⟨s1, s2, h2, e1, e2, i2⟩ := st k (Nat.le_refl _) (by omega) s h i
    obtain ⟨s3, h3, e3, i3⟩ := loop_idx (n := n) (k := k + 1) (fun m h1 h2 => st m (by omega) (by omega)) i2
    refine ⟨s3, h3, ?_, by rw [show k + (n + 1) = k + 1 + n by omega]; exact i3⟩
    rw [List.range'_succ, List.map_cons, mLoop_nx trivial e1 (.inl e2), e3]
/-! the stream -/
structure SI (X : List D) (k : D) (s : SD) (h : HP) : Prop where
  ex : ∃ (r : Int) (x5 : Option D) (row : List Int), s = [some (.ref 0), some (.int 300), some (.ref 1), some k, some (.int r), x5] ∧ h = [.rdl X, .lst (row.map D.int)] ∧ row.length ≤ 300
theorem row_app {row : List Int} {x : Int} : (row.map D.int ++ [D.int x]) = (row ++ [x]).map D.int := by simp
theorem st2 {X : List D} {d : D} {k : Int} {s : SD} {h : HP} (i : SI X (.int k) s h) : ∃ s1 s2 h2, gN 5 d s = some s1 ∧ L_u_law_stream_2 s1 h = .nx s2 h2 ∧ SI X (.int k) s2 h2 := by
  obtain ⟨r, x5, row, rfl, rfl, hl⟩ := i
  refine ⟨[some (.ref 0), some (.int 300), some (.ref 1), some (.int k), some (.int r), some d], ?_⟩
  have ln : ((row.map D.int).length : Int) = (row.length : Int) := by simp
  have ll : (row.map D.int).length < 1000000 := by simp; omega
  have fd : ∀ h, fdivG (.int r) (.int 1000) h = some (.int (r.fdiv 1000), h) := fun h => fdiv_ii ⟨by omega, by decide⟩
  have ra := @row_app row (r.fmod 1000)
  by_cases c1 : (0 : Int) < r
  · by_cases c2 : (row.length : Int) < 300
    · refine ⟨_, _, rfl, ?_, ⟨r.fdiv 1000, some d, row ++ [r.fmod 1000], rfl, rfl, by simp; omega⟩⟩
      unfold L_u_law_stream_2
      have c1' := eq_true c1
      have c2' := eq_true c2
      clear c1 c2
      walk_at "pm"
    · refine ⟨_, _, rfl, ?_, ⟨r, some d, row, rfl, rfl, hl⟩⟩
      unfold L_u_law_stream_2
      have c1' := eq_true c1
      have c2' := eq_false c2
      clear c1 c2 ra
      walk_at "pm"
  · refine ⟨_, _, rfl, ?_, ⟨r, some d, row, rfl, rfl, hl⟩⟩
    unfold L_u_law_stream_2
    have c1' := eq_false c1
    clear c1 ra
    walk_at "pm"
theorem st3 {X : List D} {d k : Int} {s : SD} {h : HP} (i : SI X (.int k) s h) : ∃ s1 s2 h2, gN 5 (.int d) s = some s1 ∧ L_u_law_stream_3 s1 h = .nx s2 h2 ∧ SI X (.int k) s2 h2 := by
  obtain ⟨r, x5, row, rfl, rfl, hl⟩ := i
  refine ⟨[some (.ref 0), some (.int 300), some (.ref 1), some (.int k), some (.int r), some (.int d)], ?_⟩
  have ln : ((row.map D.int).length : Int) = (row.length : Int) := by simp
  have ll : (row.map D.int).length < 1000000 := by simp; omega
  have mx := mix_ok r (64 * d + k)
  have cm : cMul 64 d = true := cMul_l (by omega)
  have ra := @row_app row (mixF r (64 * d + k))
  by_cases c2 : (row.length : Int) < 300
  · refine ⟨_, _, rfl, ?_, ⟨r, some (.int d), row ++ [mixF r (64 * d + k)], rfl, rfl, by simp; omega⟩⟩
    unfold L_u_law_stream_3
    have c2' := eq_true c2
    clear c2
    walk_at "pm"
  · refine ⟨_, _, rfl, ?_, ⟨r, some (.int d), row, rfl, rfl, hl⟩⟩
    unfold L_u_law_stream_3
    have c2' := eq_false c2
    clear c2 ra
    walk_at "pm"
structure SJ (X : List D) (s : SD) (h : HP) : Prop where
  ex : ∃ (x3 x4 x5 : Option D) (row : List Int), s = [some (.ref 0), some (.int 300), some (.ref 1), x3, x4, x5] ∧ h = [.rdl X, .lst (row.map D.int)] ∧ row.length ≤ 300
theorem st1 {ns : List Int} {k : Nat} {s : SD} {h : HP} (hk : k < ns.length) (i : SJ (ns.map D.int) s h) : ∃ s1 s2 h2, gN 3 (.int (0 + (k : Int))) s = some s1 ∧ L_u_law_stream_1 s1 h = .nx s2 h2 ∧ SJ (ns.map D.int) s2 h2 := by
  obtain ⟨x3, x4, x5, row, rfl, rfl, hl⟩ := i
  refine ⟨[some (.ref 0), some (.int 300), some (.ref 1), some (.int (0 + (k : Int))), x4, x5], ?_⟩
  have ha : atI (ns.map D.int) (0 + (k : Int)) = some (.int (ns.getD k 0)) := by
    rw [Int.zero_add]
    refine atI_nat ?_
    rw [List.getElem?_map, List.getElem?_eq_getElem hk, List.getD_eq_getElem?_getD, List.getElem?_eq_getElem hk]; rfl
  generalize ns.getD k 0 = r at ha
  have pw : ∀ h, powG (.int 10) (.int 18) h = some (.int 1000000000000000000, h) := fun h => pow_ii ⟨by omega, by omega, by decide⟩
  have r6 : ∀ h, itR1 [.int 60] h = .ok ((List.range' 0 60).map fun (i : Nat) => .int (0 + (i : Int)), fun _ => True) h := fun h => by rw [itR1_i ⟨by omega, by omega⟩, List.range_eq_range']; rfl
  have r3 : ∀ h, itR1 [.int 3] h = .ok ((List.range' 0 3).map fun (i : Nat) => .int (0 + (i : Int)), fun _ => True) h := fun h => by rw [itR1_i ⟨by omega, by omega⟩, List.range_eq_range']; rfl
  have si : SI (ns.map D.int) (.int (0 + (k : Int))) [some (.ref 0), some (.int 300), some (.ref 1), some (.int (0 + (k : Int))), some (.int r), x5] [.rdl (ns.map D.int), .lst (row.map D.int)] := ⟨r, x5, row, rfl, rfl, hl⟩
  by_cases c : (1000000000000000000 : Int) ≤ r
  · obtain ⟨s2, h2, e, i2⟩ := loop_inv (g := gN 5) (p := L_u_law_stream_2) (Inv := SI (ns.map D.int) (.int (0 + (k : Int)))) (ds := (List.range' 0 60).map fun (i : Nat) => .int (0 + (i : Int))) (fun d hd s h i => st2 i) si
    obtain ⟨r', x5', row', rfl, rfl, hl'⟩ := i2
    refine ⟨_, _, rfl, ?_, ⟨some (.int (0 + (k : Int))), some (.int r'), x5', row', rfl, rfl, hl'⟩⟩
    have mf : mFor (iR1 (mCons (mC (.int 60)) mNil)) (gN 5) L_u_law_stream_2 [some (.ref 0), some (.int 300), some (.ref 1), some (.int (0 + (k : Int))), some (.int r), x5] [.rdl (ns.map D.int), .lst (row.map D.int)] = .nx [some (.ref 0), some (.int 300), some (.ref 1), some (.int (0 + (k : Int))), some (.int r'), x5'] [.rdl (ns.map D.int), .lst (row'.map D.int)] := by
      rw [mFor_ok (xs := (List.range' 0 60).map fun (i : Nat) => .int (0 + (i : Int))) (G := fun _ => True) (h' := [.rdl (ns.map D.int), .lst (row.map D.int)]) (by clear e; walk_at "pm")]
      exact e
    unfold L_u_law_stream_1
    have c' := eq_true c
    clear c e si r6 r3
    walk_at "pm"
  · obtain ⟨s2, h2, e, i2⟩ := loop_inv (g := gN 5) (p := L_u_law_stream_3) (Inv := SI (ns.map D.int) (.int (0 + (k : Int)))) (ds := (List.range' 0 3).map fun (i : Nat) => .int (0 + (i : Int))) (fun d hd s h i => by
      obtain ⟨m, _, rfl⟩ := List.mem_map.mp hd
      exact st3 i) si
    obtain ⟨r', x5', row', rfl, rfl, hl'⟩ := i2
    refine ⟨_, _, rfl, ?_, ⟨some (.int (0 + (k : Int))), some (.int r'), x5', row', rfl, rfl, hl'⟩⟩
    have mf : mFor (iR1 (mCons (mC (.int 3)) mNil)) (gN 5) L_u_law_stream_3 [some (.ref 0), some (.int 300), some (.ref 1), some (.int (0 + (k : Int))), some (.int r), x5] [.rdl (ns.map D.int), .lst (row.map D.int)] = .nx [some (.ref 0), some (.int 300), some (.ref 1), some (.int (0 + (k : Int))), some (.int r'), x5'] [.rdl (ns.map D.int), .lst (row'.map D.int)] := by
      rw [mFor_ok (xs := (List.range' 0 3).map fun (i : Nat) => .int (0 + (i : Int))) (G := fun _ => True) (h' := [.rdl (ns.map D.int), .lst (row.map D.int)]) (by clear e; walk_at "pm")]
      exact e
    unfold L_u_law_stream_1
    have c' := eq_false c
    clear c e si r6 r3
    walk_at "pm"
theorem stream_ok {ns : List Int} (hn : ns.length ≤ 63) : ∃ h row, m_u_law_stream [.ref 0, .int 300] [.rdl (ns.map D.int)] = .ok (.ref 2) h ∧ St h 2 1 row 0 ∧ row.length ≤ 300 ∧ h.length = 3 := by
  obtain ⟨s2, h2, e, i2⟩ := loop_idx (g := gN 3) (p := L_u_law_stream_1) (Inv := fun _ => SJ (ns.map D.int)) (n := ns.length) (k := 0) (fun m _ hm s h i => st1 (by omega) i) (s := [some (.ref 0), some (.int 300), some (.ref 1), none, none, none]) (h := [.rdl (ns.map D.int), .lst ([].map D.int)]) ⟨none, none, none, [], rfl, rfl, by simp⟩
  obtain ⟨x3, x4, x5, row, rfl, rfl, hl⟩ := i2
  have ln : ((row.map D.int).length : Int) = (row.length : Int) := by simp
  have ln2 : ((ns.map D.int).length : Int) = (ns.length : Int) := by simp
  have c1 : ((63 : Int) < (ns.length : Int)) = False := eq_false (by omega)
  have rr : ∀ h, itR1 [.int (ns.length : Int)] h = .ok ((List.range' 0 ns.length).map fun (i : Nat) => .int (0 + (i : Int)), fun _ => True) h := fun h => by
    rw [itR1_i ⟨by omega, by omega⟩, List.range_eq_range', Int.toNat_natCast]
  refine ⟨[.rdl (ns.map D.int), .lst (row.map D.int), .dic [(.inr "row", .ref 1), (.inr "at", .int 0), (.inr "seed", .int row.length)]], row, ?_, ⟨rfl, rfl, by omega⟩, hl, rfl⟩
  have mf : mFor (iR1 (mCons (mB min2G (mCons (mB lenG (mCons (mVar 0) mNil)) (mCons (mC (.int 63)) mNil))) mNil)) (gN 3) L_u_law_stream_1 [some (.ref 0), some (.int 300), some (.ref 1), none, none, none] [.rdl (ns.map D.int), .lst []] = .nx [some (.ref 0), some (.int 300), some (.ref 1), x3, x4, x5] [.rdl (ns.map D.int), .lst (row.map D.int)] := by
    rw [mFor_ok (xs := (List.range' 0 ns.length).map fun (i : Nat) => .int (0 + (i : Int))) (G := fun _ => True) (h' := [.rdl (ns.map D.int), .lst []]) (by clear e; walk_at "pm")]
    exact e
  have md : mDisp [(mC (.str "row"), mVar 2), (mC (.str "at"), mC (.int 0)), (mC (.str "seed"), mB lenG (mCons (mVar 2) mNil))] [some (.ref 0), some (.int 300), some (.ref 1), x3, x4, x5] [.rdl (ns.map D.int), .lst (row.map D.int)] = .ok (.ref 2) [.rdl (ns.map D.int), .lst (row.map D.int), .dic [(.inr "row", .ref 1), (.inr "at", .int 0), (.inr "seed", .int row.length)]] := by
    have : (row.length : Int) = ((row.map D.int).length : Int) := by simp
    rw [this]
    rfl
  unfold m_u_law_stream b_u_law_stream
  clear e rr c1
  walk_at "pm"
end K00
end
section
set_option Elab.async false
set_option linter.all false
set_option maxRecDepth 100000
set_option maxHeartbeats 1000000
namespace K00
open PySem L2 PM TX
local macro_rules | `(tactic| walk_at "pm") => `(tactic| simp only [bind_ok, toS_ok, seq_nx, seq_rt, seq_bk, seq_ct, seq_exc, bind_exc, toS_exc, mSeq_ap, mNext_ap, mSet_ap, kSet_ap, mAsg_ap, kAsg_ap, ofS_some, gN_ap, gTup_ap, gCons_ap, gNil_ap, mDrop_ap, kDrop_ap, mRet_ap, mRetN_ap, mIfS_ap, kIf_t, kIf_f, mBreak_ap, mCont_ap, mBad_ap, mAug_ap, kAug_ap, mVar_ap, mC_ap, m1_ap, k1_ap, m2_ap, k2_ap, k2'_ap, ofO_some, mNil_ap, mCons_ap, kC_ap, kC'_ap, mCall_ap, mB_ap, kB_ap, mMeth_ap, kM_ap, kM'_ap, mTest_ap, kBl_ap, mNot_ap, kNot_ap, mAnd_ap, kAnd_t, kAnd_f, mOr_ap, kOr_t, kOr_f, mIfE_ap, kIfE_t, kIfE_f, mAndV_ap, kAndV_t, kAndV_f, mOrV_ap, kOrV_t, kOrV_f, mNotV_ap, kNotV_ap, mTup_ap, kTup_ap, mLst_ap, kLst_ap, mNoPart_ap, mPart_ap, kInt_ap, mSl_ap, kSl1_ap, kSl2_ap, kSl3_ap, mChain_ap, kCh0_ap, kCh1_ap, kCh2_t, kCh2_f, kCh3_ap, mPutD_ap, kP1_ap, kP2_ap, kP3_ap, runDef_ap, fin_nx, fin_rt, fin_exc, mYes_ap, add_ii, iadd_ii, add_ss, sub_ii, mul_ii, mul_si, mod_ii, fdiv_ii, pow_ii, neg_i, ord_ii, ord_ss, eq_ii, ne_ii, eq_ss, ne_ss, is_non, isn_non, int_i, len_s, len_t, min_ii, sl_s, in_c, nin_c, split_s, str1_ss, find4_s, ty_str, ord_c, iR1_ap, itR1_i, iS_ap, itS_s, iT_ap, itT_t, iE_ap, oD_some, len_r, oLen_l, oLen_r, oKey_s, it_ref, oItem_d, oItem_l, oItem_r, it_tup, oC_some, it_str, keyD_s, keyD_i, app_r, oApp_l, ext_r, oExt_l, ty_ref, oTy_l, isi_ref, oIsi_l, put_ref, oPut_d, oPutK_s, oBls_s, all_r, oAll_l, tup_r, oTup_l, itE_r, oEnum_l, List.map_cons, List.map_nil, List.length_cons, List.length_nil, List.replicate, List.cons_append, List.nil_append, List.set_cons_zero, List.set_cons_succ, List.getElem?_cons_zero, List.getElem?_cons_succ, Nat.reduceSub, Nat.reduceAdd, Nat.reduceLeDiff, Nat.reduceLT,  cond_true, cond_false, if_true, if_false, ite_true, ite_false, Bool.false_eq_true, reduceIte, Nat.zero_add, Option.bind_some, ne_eq, Int.reduceEq, not_false_eq_true, not_true_eq_false, decide_true, decide_false, Bool.not_true, Bool.not_false, *])

noncomputable def A1 : MS := mAsg (PM.gTup 2 (PM.gCons (gN 6) (PM.gCons (gN 7) (PM.gNil)))) (mCall m_u_law_word (mCons (mVar 1) (mNil)))
noncomputable def I1 : MS := mIfS (mOr (mNot (mOr (mTest (mCall m_u_law_alone (mCons (m2 itemG (mVar 4) (mC (.int 0))) (mCons (m2 itemG (mVar 4) (mC (.int 1))) (mNil))))) (mTest (mCall m_u_law_alone (mCons (mVar 6) (mCons (mVar 7) (mNil))))))) (mTest (m2 (eqG false) (mCall m_u_law_pick (mCons (mVar 1) (mCons (mC (.int 3)) (mNil)))) (mC (.int 0))))) (mIfS (mTest (m2 gtG (mVar 5) (mC (.int 0)))) (mSet 2 (m2 addG (mVar 2) (mCall m_u_law_between (mCons (mVar 1) (mNil))))) (mNext)) (mNext)
noncomputable def D1 : MS := mDrop (mMeth "list" appendG (mVar 3) (mCons (mTup (mCons (mVar 6) (mCons (mVar 7) (mCons (m2 addG (mMeth "str" (strG1 fun a b => .int (Txt.count a b)) (mVar 2) (mCons (mC (.str "\n")) (mNil))) (mC (.int 1))) (mCons (m2 subG (mB lenG (mCons (mVar 2) (mNil))) (mMeth "str" (strG1 fun a b => .int (Txt.rfind a b)) (mVar 2) (mCons (mC (.str "\n")) (mNil)))) (mNil)))))) (mNil)))
noncomputable def X1 : MS := mIfS (mTest (m2 (eqG false) (mVar 6) (mC (.str "text")))) (mSet 2 (m2 addG (m2 addG (m2 addG (mVar 2) (mC (.str "\""))) (mVar 7)) (mC (.str "\"")))) (mSet 2 (m2 addG (mVar 2) (mVar 7)))
noncomputable def Z1 : MS := mSet 4 (mTup (mCons (mVar 6) (mCons (mVar 7) (mNil))))
theorem L_law_eq : L_law_1 = mSeq A1 (mSeq I1 (mSeq D1 (mSeq X1 Z1))) := rfl
abbrev LS (P : List Nat) (d : Nat) (k w : List Nat) (x5 x6 x7 : Option D) : SD := [some (.ref 0), some (.ref 2), some (.str (S P)), some (.ref d), some (.tup [.str (S k), .str (S w)]), x5, x6, x7, none]
theorem add_S {a b : List Nat} {h : HP} (l : a.length + b.length ≤ 1000000) : addG (.str (S a)) (.str (S b)) h = some (.str (S (a ++ b)), h) := by
  rw [add_ss (by rw [S_len, S_len]; exact l), S_app]
theorem sep_step {h : HP} {P k w k2 w2 : List Nat} {d m n : Nat} {row : List Int} {due : List D} {pw : List Nat} (s : St h 2 1 row n) (pre : Pre P due pw) (p0 : m = 0 → pw = []) (p1 : m ≠ 0 → pw = pc (S k) w) (hP : P.length ≤ 20000) :
    ∃ b h' n', I1 (LS P d k w (some (.int (0 + (m : Int)))) (some (.str (S k2))) (some (.str (S w2)))) h = .nx (LS (P ++ b) d k w (some (.int (0 + (m : Int)))) (some (.str (S k2))) (some (.str (S w2)))) h' ∧ St h' 2 1 row n' ∧ Fr 2 h h' ∧ b.length ≤ 60 ∧ (∃ pw', Pre (P ++ b) due pw' ∧ hdOk pw' (pc (S k2) w2) = true) := by
  have a1 := fun h => @alone_ok k w h
  have a2 := fun h => @alone_ok k2 w2 h
  have i0 : ∀ h, itemG (.tup [.str (S k), .str (S w)]) (.int 0) h = some (.str (S k), h) := fun _ => rfl
  have i1 : ∀ h, itemG (.tup [.str (S k), .str (S w)]) (.int 1) h = some (.str (S w), h) := fun _ => rfl
  unfold I1
  generalize hA1 : (decide (S k = ("text" : Str)) || decide (w ∈ AL)) = A1 at *
  generalize hA2 : (decide (S k2 = ("text" : Str)) || decide (w2 ∈ AL)) = A2 at *
  have put : ∀ {h : HP} {n : Nat}, St h 2 1 row n → m ≠ 0 → ∃ b h' n', m_u_law_between [.ref 2] h = .ok (.str (S b)) h' ∧ (∀ h, addG (.str (S P)) (.str (S b)) h = some (.str (S (P ++ b)), h)) ∧ St h' 2 1 row n' ∧ Fr 2 h h' ∧ b.length ≤ 60 ∧ (∃ pw', Pre (P ++ b) due pw' ∧ hdOk pw' (pc (S k2) w2) = true) := by
    intro h n s _
    obtain ⟨b, h', n', e, hb, hh, hl, s', f⟩ := between_ok s
    exact ⟨b, h', n', e, fun h => add_S (by omega), s', f, hl, [], pre.sep hb (fun l => hh pw l), hd_nil _⟩
  have stay : m = 0 ∨ (A1 = true ∨ A2 = true) → ∃ pw', Pre (P ++ []) due pw' ∧ hdOk pw' (pc (S k2) w2) = true := by
    intro hh
    rw [List.append_nil]
    refine ⟨pw, pre, ?_⟩
    by_cases hm : m = 0
    · rw [p0 hm]; exact hd_nil _
    · rw [p1 hm]
      refine hd_alone ?_
      rw [hA1, hA2]
      rcases hh with hh | hh
      · exact absurd hh hm
      · exact hh
  have ap : P ++ [] = P := List.append_nil P
  cases hA : (A1 || A2) with
  | false =>
    rw [Bool.or_eq_false_iff] at hA
    obtain ⟨e1, e2⟩ := hA
    by_cases hm : m = 0
    · refine ⟨[], h, n, ?_, s, Fr.refl _ _, by simp, stay (.inl hm)⟩
      have c1 : ((0 : Int) < 0 + (m : Int)) = False := eq_false (by omega)
      clear hA1 hA2 put stay hm
      subst e1 e2
      walk_at "pm"
    · obtain ⟨b, h', n', e, ad, s', f, hl, z⟩ := put s hm
      refine ⟨b, h', n', ?_, s', f, hl, z⟩
      have c1 : ((0 : Int) < 0 + (m : Int)) = True := eq_true (by omega)
      clear hA1 hA2 put stay hm z ap
      subst e1 e2
      walk_at "pm"
  | true =>
    obtain ⟨h1, e3, s1, f1, -⟩ := pick_ok s (m := 3) (by omega)
    generalize (pkF row n).fmod 3 = z at e3
    have tA : A1 = true ∨ A2 = true := by simpa using hA
    by_cases hz : z = 0
    · have cz : decide (z = 0) = true := decide_eq_true hz
      by_cases hm : m = 0
      · refine ⟨[], h1, n + 1, ?_, s1, f1, by simp, stay (.inl hm)⟩
        have c1 : ((0 : Int) < 0 + (m : Int)) = False := eq_false (by omega)
        clear hA1 hA2 put stay hm hz hA
        rcases tA with e1 | e1
        · subst e1
          walk_at "pm"
        · subst e1
          cases A1 <;> walk_at "pm"
      · obtain ⟨b, h', n', e, ad, s', f, hl, zz⟩ := put s1 hm
        refine ⟨b, h', n', ?_, s', f1.trans f, hl, zz⟩
        have c1 : ((0 : Int) < 0 + (m : Int)) = True := eq_true (by omega)
        clear hA1 hA2 put stay hm hz hA zz ap
        rcases tA with e1 | e1
        · subst e1
          walk_at "pm"
        · subst e1
          cases A1 <;> walk_at "pm"
    · have cz : decide (z = 0) = false := decide_eq_false hz
      refine ⟨[], h1, n + 1, ?_, s1, f1, by simp, stay (.inr tA)⟩
      clear hA1 hA2 put stay hz hA
      rcases tA with e1 | e1
      · subst e1
        walk_at "pm"
      · subst e1
        cases A1 <;> walk_at "pm"
theorem St.set {h : HP} {i j d : Nat} {row : List Int} {n : Nat} (s : St h i j row n) (o : Ob) (h1 : d ≠ i) (h2 : d ≠ j) : St (h.set d o) i j row n :=
  ⟨by rw [List.getElem?_set_ne h1]; exact s.d, by rw [List.getElem?_set_ne h2]; exact s.r, s.z⟩
theorem pos_cn (T : List Nat) : Txt.count (S T) ("\n" : Str) + 1 = ((pos (1, 0) T).1 : Int) := by
  rw [count_nl, pos_row]
  show _ = ((1 + T.count 10 : Nat) : Int)
  omega
theorem pos_rf (T : List Nat) : ((S T).length : Int) - Txt.rfind (S T) ("\n" : Str) = (((pos (1, 0) T).2 + 1 : Nat) : Int) := by
  rw [S_len]; exact rfind_nl T
structure LI (row : List Int) (d m : Nat) (s : SD) (h : HP) : Prop where
  ex : ∃ P due pw k w n x5 x6 x7, s = LS P d k w x5 x6 x7 ∧ St h 2 1 row n ∧ h[d]? = some (.lst due) ∧ Pre P due pw ∧ (m = 0 → pw = []) ∧ (m ≠ 0 → pw = pc (S k) w) ∧ P.length ≤ 20 + 110 * m ∧ due.length = m ∧ (∀ x ∈ due, TokLike x)
theorem pc_len (k w : List Nat) : (pc (S k) w).length ≤ w.length + 2 := by
  unfold pc; split <;> simp
theorem law_step {row : List Int} {d m : Nat} (hd : 2 < d) (hm : m < 120) {s : SD} {h : HP} (i : LI row d m s h) : ∃ s1 s2 h2, gN 5 (.int (0 + (m : Int))) s = some s1 ∧ L_law_1 s1 h = .nx s2 h2 ∧ LI row d (m + 1) s2 h2 := by
  obtain ⟨P, due, pw, k, w, n, x5, x6, x7, rfl, st, hdue, pre, p0, p1, hP, hl, ht⟩ := i
  refine ⟨LS P d k w (some (.int (0 + (m : Int)))) x6 x7, ?_⟩
  obtain ⟨k2, w2, h1, n1, e1, ok2, st1, f1⟩ := word_ok st
  obtain ⟨b, h2, n2, e2, st2, f2, hb, pw', pre2, hh⟩ := sep_step (d := d) (k2 := k2) (w2 := w2) st1 pre p0 p1 (by omega)
  have hdue2 : h2[d]? = some (.lst due) := f2.at' _ _ (by omega) (f1.at' _ _ (by omega) hdue)
  have pre3 := pre2.tok ok2.tok hh
  have hpl := pc_len k2 w2
  have hwl := ok2.len
  have tl : TokLike (tokD (S k2) w2 (pos (1, 0) (P ++ b)).1 (pos (1, 0) (P ++ b)).2) := ⟨k2, w2, _, _, ok2.sk, ok2.sw, rfl⟩
  refine ⟨LS (P ++ b ++ pc (S k2) w2) d k2 w2 (some (.int (0 + (m : Int)))) (some (.str (S k2))) (some (.str (S w2))), h2.set d (.lst (due ++ [tokD (S k2) w2 (pos (1, 0) (P ++ b)).1 (pos (1, 0) (P ++ b)).2])), rfl, ?_, P ++ b ++ pc (S k2) w2, due ++ [tokD (S k2) w2 (pos (1, 0) (P ++ b)).1 (pos (1, 0) (P ++ b)).2], pc (S k2) w2, k2, w2, n2, _, _, _, rfl, st2.set _ (by omega) (by omega), ?_, pre3, (fun e => by omega), (fun _ => rfl), ?_, ?_, ?_⟩
  · rw [L_law_eq]
    have E1 : A1 (LS P d k w (some (.int (0 + (m : Int)))) x6 x7) h = .nx (LS P d k w (some (.int (0 + (m : Int)))) (some (.str (S k2))) (some (.str (S w2)))) h1 := by
      unfold A1
      clear e2
      walk_at "pm"
    have hT : (P ++ b).length ≤ 20000 := by simp; omega
    generalize P ++ b = T at *
    have E3 : D1 (LS T d k w (some (.int (0 + (m : Int)))) (some (.str (S k2))) (some (.str (S w2)))) h2 = .nx (LS T d k w (some (.int (0 + (m : Int)))) (some (.str (S k2))) (some (.str (S w2)))) (h2.set d (.lst (due ++ [tokD (S k2) w2 (pos (1, 0) T).1 (pos (1, 0) T).2]))) := by
      unfold D1 tokD
      have cn := pos_cn T
      have rf := pos_rf T
      have sT : (S T).length ≤ 1000000 := by rw [S_len]; omega
      have dl : due.length < 1000000 := by omega
      clear e1 e2 E1 hl hdue
      walk_at "pm"
    have E4 : X1 (LS T d k w (some (.int (0 + (m : Int)))) (some (.str (S k2))) (some (.str (S w2)))) (h2.set d (.lst (due ++ [tokD (S k2) w2 (pos (1, 0) T).1 (pos (1, 0) T).2]))) = .nx (LS (T ++ pc (S k2) w2) d k w (some (.int (0 + (m : Int)))) (some (.str (S k2))) (some (.str (S w2)))) (h2.set d (.lst (due ++ [tokD (S k2) w2 (pos (1, 0) T).1 (pos (1, 0) T).2]))) := by
      unfold X1 pc
      generalize h2.set d (.lst (due ++ [tokD (S k2) w2 (pos (1, 0) T).1 (pos (1, 0) T).2])) = hx
      by_cases c : S k2 = ("text" : Str)
      · have c' : decide (S k2 = ("text" : Str)) = true := decide_eq_true c
        rw [if_pos c]
        have q : ("\"" : Str) = S [34] := rfl
        have d1 : ∀ h, addG (.str (S T)) (.str ("\"" : Str)) h = some (.str (S (T ++ [34])), h) := fun h => by rw [q]; exact add_S (by simp; omega)
        have d2 : ∀ h, addG (.str (S (T ++ [34]))) (.str (S w2)) h = some (.str (S (T ++ [34] ++ w2)), h) := fun h => add_S (by simp; omega)
        have d3 : ∀ h, addG (.str (S (T ++ [34] ++ w2))) (.str ("\"" : Str)) h = some (.str (S (T ++ (34 :: w2 ++ [34]))), h) := fun h => by
          rw [q, add_S (by simp; omega)]
          simp
        clear e1 e2 E1 E3 hl hdue c q
        walk_at "pm"
      · have c' : decide (S k2 = ("text" : Str)) = false := decide_eq_false c
        rw [if_neg c]
        have d2 : ∀ h, addG (.str (S T)) (.str (S w2)) h = some (.str (S (T ++ w2)), h) := fun h => add_S (by omega)
        clear e1 e2 E1 E3 hl hdue c
        walk_at "pm"
    generalize h2.set d (.lst (due ++ [tokD (S k2) w2 (pos (1, 0) T).1 (pos (1, 0) T).2])) = hx at *
    have E5 : Z1 (LS (T ++ pc (S k2) w2) d k w (some (.int (0 + (m : Int)))) (some (.str (S k2))) (some (.str (S w2)))) hx = .nx (LS (T ++ pc (S k2) w2) d k2 w2 (some (.int (0 + (m : Int)))) (some (.str (S k2))) (some (.str (S w2)))) hx := by
      unfold Z1
      clear e1 e2 E1 E3 E4 hl hdue
      walk_at "pm"
    rw [mSeq_ap, E1, seq_nx, mSeq_ap, e2, seq_nx, mSeq_ap, E3, seq_nx, mSeq_ap, E4, seq_nx, E5]
  · exact List.getElem?_set_self (get_lt hdue2)
  · simp; omega
  · simp; omega
  · intro x hx
    rcases List.mem_append.mp hx with hx | hx
    · exact ht x hx
    · rw [List.mem_singleton.mp hx]; exact tl
end K00
end
section
set_option Elab.async false
set_option linter.all false
set_option maxRecDepth 100000
set_option maxHeartbeats 1000000
namespace K00
open PySem L2 PM TX
local macro_rules | `(tactic| walk_at "pm") => `(tactic| simp only [bind_ok, toS_ok, seq_nx, seq_rt, seq_bk, seq_ct, seq_exc, bind_exc, toS_exc, mSeq_ap, mNext_ap, mSet_ap, kSet_ap, mAsg_ap, kAsg_ap, ofS_some, gN_ap, gTup_ap, gCons_ap, gNil_ap, mDrop_ap, kDrop_ap, mRet_ap, mRetN_ap, mIfS_ap, kIf_t, kIf_f, mBreak_ap, mCont_ap, mBad_ap, mAug_ap, kAug_ap, mVar_ap, mC_ap, m1_ap, k1_ap, m2_ap, k2_ap, k2'_ap, ofO_some, mNil_ap, mCons_ap, kC_ap, kC'_ap, mCall_ap, mB_ap, kB_ap, mMeth_ap, kM_ap, kM'_ap, mTest_ap, kBl_ap, mNot_ap, kNot_ap, mAnd_ap, kAnd_t, kAnd_f, mOr_ap, kOr_t, kOr_f, mIfE_ap, kIfE_t, kIfE_f, mAndV_ap, kAndV_t, kAndV_f, mOrV_ap, kOrV_t, kOrV_f, mNotV_ap, kNotV_ap, mTup_ap, kTup_ap, mLst_ap, kLst_ap, mNoPart_ap, mPart_ap, kInt_ap, mSl_ap, kSl1_ap, kSl2_ap, kSl3_ap, mChain_ap, kCh0_ap, kCh1_ap, kCh2_t, kCh2_f, kCh3_ap, mPutD_ap, kP1_ap, kP2_ap, kP3_ap, runDef_ap, fin_nx, fin_rt, fin_exc, mYes_ap, add_ii, iadd_ii, add_ss, sub_ii, mul_ii, mul_si, mod_ii, fdiv_ii, pow_ii, neg_i, ord_ii, ord_ss, eq_ii, ne_ii, eq_ss, ne_ss, is_non, isn_non, int_i, len_s, len_t, min_ii, sl_s, in_c, nin_c, split_s, str1_ss, find4_s, ty_str, ord_c, iR1_ap, itR1_i, iS_ap, itS_s, iT_ap, itT_t, iE_ap, oD_some, len_r, oLen_l, oLen_r, oKey_s, it_ref, oItem_d, oItem_l, oItem_r, it_tup, oC_some, it_str, keyD_s, keyD_i, app_r, oApp_l, ext_r, oExt_l, ty_ref, oTy_l, isi_ref, oIsi_l, put_ref, oPut_d, oPutK_s, oBls_s, all_r, oAll_l, tup_r, oTup_l, itE_r, oEnum_l, List.map_cons, List.map_nil, List.length_cons, List.length_nil, List.replicate, List.cons_append, List.nil_append, List.set_cons_zero, List.set_cons_succ, List.getElem?_cons_zero, List.getElem?_cons_succ, Nat.reduceSub, Nat.reduceAdd, Nat.reduceLeDiff, Nat.reduceLT,  cond_true, cond_false, if_true, if_false, ite_true, ite_false, Bool.false_eq_true, reduceIte, Nat.zero_add, Option.bind_some, ne_eq, Int.reduceEq, not_false_eq_true, not_true_eq_false, decide_true, decide_false, Bool.not_true, Bool.not_false, *])

def BG : List (List Nat) := ["", "", " ", "\n", "# begin\n  "].map ls
def EN : List (List Nat) := ["", " ", "\n", "\n  ", " # the end"].map ls
theorem bg_ok : ∀ w ∈ BG, sepB false false w = true ∧ w.length ≤ 20 := by decide
theorem en_ok : ∀ w ∈ EN, sepB true false w = true ∧ w.length ≤ 20 ∧ (w = [] ∨ (w.headD 0 = 32 ∨ w.headD 0 = 10 ∨ w.headD 0 = 35)) := by decide
theorem kw_small : ∀ d ∈ KW, d.all (fun c => decide (c < 1114112)) = true := by decide
noncomputable def F1 : MS := mFor (iR1 (mCons (mB min2G (mCons (mC (.int 120)) (mCons (m2 addG (mC (.int 1)) (m2 fdivG (mB lenG (mCons (m2 itemG (mVar 1) (mC (.str "row"))) (mNil))) (mC (.int 3)))) (mNil)))) (mNil))) (gN 5) L_law_1
theorem law_loop {row : List Int} {d : Nat} {h : HP} {P : List Nat} {n : Nat} (hd : 2 < d) (st : St h 2 1 row n) (hr : row.length ≤ 300) (hdue : h[d]? = some (.lst [])) (pre : Pre P [] []) (hP : P.length ≤ 20) :
    ∃ P' due pw k w n' x5 x6 x7 h', F1 [some (.ref 0), some (.ref 2), some (.str (S P)), some (.ref d), some (.tup [.str "sign", .str "("]), none, none, none, none] h = .nx (LS P' d k w x5 x6 x7) h' ∧ St h' 2 1 row n' ∧ h'[d]? = some (.lst due) ∧ Pre P' due pw ∧ P'.length ≤ 20000 ∧ due.length ≤ 120 ∧ (∀ x ∈ due, TokLike x) := by
  obtain ⟨M, hM, hM2⟩ : ∃ M : Nat, M ≤ 120 ∧ (if 1 + (row.length : Int).fdiv 3 < 120 then 1 + (row.length : Int).fdiv 3 else 120) = (M : Int) := by
    have h0 : 0 ≤ (row.length : Int).fdiv 3 := Int.fdiv_nonneg (by omega) (by omega)
    split
    · exact ⟨(1 + (row.length : Int).fdiv 3).toNat, by omega, by omega⟩
    · exact ⟨120, by omega, rfl⟩
  obtain ⟨s2, h2, e, i2⟩ := loop_idx (g := gN 5) (p := L_law_1) (Inv := LI row d) (n := M) (k := 0) (fun m _ hm s h i => law_step hd (by omega) i) (s := [some (.ref 0), some (.ref 2), some (.str (S P)), some (.ref d), some (.tup [.str "sign", .str "("]), none, none, none, none]) (h := h)
    ⟨P, [], [], ls "sign", ls "(", n, none, none, none, rfl, st, hdue, pre, fun _ => rfl, fun e => absurd rfl e, by omega, rfl, by simp⟩
  obtain ⟨P', due, pw, k, w, n', x5, x6, x7, rfl, st', hdue', pre', _, _, hP', hl, ht⟩ := i2
  refine ⟨P', due, pw, k, w, n', x5, x6, x7, h2, ?_, st', hdue', pre', by omega, by omega, ht⟩
  unfold F1
  have sd := st.d
  have sr := st.r
  have g3 : getK [((.inr "row" : Key), D.ref 1), (.inr "at", .int n), (.inr "seed", .int row.length)] (.inr "row") = some (.ref 1) := rfl
  have ln : ((row.map D.int).length : Int) = (row.length : Int) := by simp
  have fd : ∀ h, fdivG (.int row.length) (.int 3) h = some (.int ((row.length : Int).fdiv 3), h) := fun h => fdiv_ii ⟨by omega, by decide⟩
  have mn : ∀ h, min2G [.int 120, .int (1 + (row.length : Int).fdiv 3)] h = some (.int M, h) := fun h => by rw [min_ii, hM2]
  have rr : ∀ h, itR1 [.int (M : Int)] h = .ok ((List.range' 0 M).map fun (i : Nat) => .int (0 + (i : Int)), fun _ => True) h := fun h => by
    rw [itR1_i ⟨by omega, by omega⟩, List.range_eq_range', Int.toNat_natCast]
  rw [mFor_ok (xs := (List.range' 0 M).map fun (i : Nat) => .int (0 + (i : Int))) (G := fun _ => True) (h' := h) (by
    clear e hM2 hl
    generalize (row.length : Int).fdiv 3 = q at *
    walk_at "pm")]
  exact e
/-! the law's end -/
noncomputable def B1 : MS := mSet 1 (mCall m_u_law_stream (mCons (mVar 0) (mCons (mC (.int 300)) (mNil))))
noncomputable def B2 : MS := mSet 2 (m2 itemG (mLst (mCons (mC (.str "")) (mCons (mC (.str "")) (mCons (mC (.str " ")) (mCons (mC (.str "\n")) (mCons (mC (.str "# begin\n  ")) (mNil))))))) (mCall m_u_law_pick (mCons (mVar 1) (mCons (mC (.int 5)) (mNil)))))
noncomputable def B3 : MS := mSet 3 (mLst (mNil))
noncomputable def B4 : MS := mSet 4 (mTup (mCons (mC (.str "sign")) (mCons (mC (.str "(")) (mNil))))
noncomputable def B5 : MS := mSet 2 (m2 addG (mVar 2) (m2 itemG (mLst (mCons (mC (.str "")) (mCons (mC (.str " ")) (mCons (mC (.str "\n")) (mCons (mC (.str "\n  ")) (mCons (mC (.str " # the end")) (mNil))))))) (mCall m_u_law_pick (mCons (mVar 1) (mCons (mC (.int 5)) (mNil))))))
noncomputable def B6 : MS := mDrop (mMeth "list" appendG (mVar 3) (mCons (mTup (mCons (mC (.str "end")) (mCons (mC (.str "")) (mCons (m2 addG (mMeth "str" (strG1 fun a b => .int (Txt.count a b)) (mVar 2) (mCons (mC (.str "\n")) (mNil))) (mC (.int 1))) (mCons (m2 subG (mB lenG (mCons (mVar 2) (mNil))) (mMeth "str" (strG1 fun a b => .int (Txt.rfind a b)) (mVar 2) (mCons (mC (.str "\n")) (mNil)))) (mNil)))))) (mNil)))
noncomputable def B7 : MS := mSet 8 (mCall m_tokens (mCons (mVar 2) (mNil)))
noncomputable def B8 : MS := mIfS (mOr (mNot (mTest (mB isiG (mCons (mVar 8) (mCons (mC (.ty "list")) (mNil)))))) (mTest (m2 (eqG true) (mVar 8) (mVar 3)))) (mRet (mC (.bl false))) (mNext)
noncomputable def B9 : MS := mRet (mAndV (m2 (eqG false) (mC c_KEYWORDS) (mB toTupG (mCons (mCall m_u_law_keywords mNil) (mNil)))) (m2 (eqG false) (mCall m_tokens (mCons (mC (.str "")) (mNil))) (mLst (mCons (mTup (mCons (mC (.str "end")) (mCons (mC (.str "")) (mCons (mC (.int 1)) (mCons (mC (.int 1)) (mNil)))))) (mNil)))))
theorem b_law_eq : b_law = mSeq B1 (mSeq B2 (mSeq B3 (mSeq B4 (mSeq F1 (mSeq B5 (mSeq B6 (mSeq B7 (mSeq B8 B9)))))))) := rfl
theorem last_ok {s : SD} {h : HP} : ∃ h', B9 s h = .rt (.bl true) h' := by
  have kk := @keys_ok h
  have g3 := @get_new3 h (.lst ((KW.take 13).map fun w => .str (S w))) (.lst ((KW.drop 13).map fun w => .str (S w))) (.lst (KW.map fun w => .str (S w))) []
  generalize (h ++ [Ob.lst ((KW.take 13).map fun w => D.str (S w)), .lst ((KW.drop 13).map fun w => .str (S w)), .lst (KW.map fun w => .str (S w))]) = h1 at *
  have ek : (KW.map fun w => D.str (S w)) = (KW.map S).map D.str := by rw [List.map_map]; rfl
  have eqk : eqG false c_KEYWORDS (.tup (KW.map fun w => D.str (S w))) h1 = some (.bl true, h1) := by
    have : c_KEYWORDS = .tup ((KW.map S).map D.str) := rfl
    rw [ek, this]
    unfold eqG
    rw [eq_strs kw_small]; rfl
  generalize (KW.map fun w => D.str (S w)) = kwl at *
  obtain ⟨g, t⟩ := tokens_text (l := []) (ts := []) (h := h1) .nil (by simp)
  have t : m_tokens [.str ""] h1 = .ok (.ref h1.length) (h1 ++ .lst [endD 1 0] :: g) := t
  have gt : ((h1 ++ .lst [endD 1 0] :: g) ++ [.lst [endD 1 0]])[h1.length]? = some (.lst [endD 1 0]) := by
    rw [List.append_assoc, List.cons_append]; exact get_new
  have gt2 : ((h1 ++ .lst [endD 1 0] :: g) ++ [.lst [endD 1 0]])[(h1 ++ .lst [endD 1 0] :: g).length]? = some (.lst [endD 1 0]) := get_new
  have eqt : eqG false (.ref h1.length) (.ref (h1 ++ .lst [endD 1 0] :: g).length) ((h1 ++ .lst [endD 1 0] :: g) ++ [.lst [endD 1 0]]) = some (.bl true, (h1 ++ .lst [endD 1 0] :: g) ++ [.lst [endD 1 0]]) := by
    unfold eqG
    rw [eq_toks gt gt2 (fun d hd => by rw [List.mem_singleton.mp hd]; exact ⟨ls "end", [], 1, 1, by decide, by decide, rfl⟩)]; rfl
  generalize hgen : h1 ++ .lst [endD 1 0] :: g = h2 at *
  refine ⟨h2 ++ [.lst [endD 1 0]], ?_⟩
  unfold B9
  have ee : endD 1 0 = .tup [.str "end", .str "", .int 1, .int 1] := rfl
  rw [ee] at eqt ⊢
  clear ek gt gt2 hgen ee
  walk_at "pm"
theorem main (ns : List Int) (hn : ns.length ≤ 63) : ∃ h', m_law [.ref 0] [.rdl (ns.map PM.D.int)] = .ok (.bl true) h' := by
  obtain ⟨h1, row, e1, st1, hr, hlen⟩ := stream_ok hn
  obtain ⟨d0, hd0, z, h2, pk, gt, ha, st2, f2⟩ := menu_pk st1 (BG.map fun w => .str (S w)) (N := 5) rfl (by omega)
  obtain ⟨P, hw, rfl⟩ := in_map hd0
  obtain ⟨b1, b2⟩ := bg_ok P hw
  have d3 : 2 < h2.length := by have := f2.len; omega
  obtain ⟨P', due, pw, k, w, n', x5, x6, x7, h3, e3, st3, hdue, pre, hP', hdl, ht⟩ := law_loop (d := h2.length) (P := P) d3 (st2.app [.lst []]) hr get_new (Pre.nil b1) b2
  obtain ⟨d5, hd5, z5, h5, pk5, gt5, ha5, st5, f5⟩ := menu_pk st3 (EN.map fun w => .str (S w)) (N := 5) rfl (by omega)
  obtain ⟨E, hE, rfl⟩ := in_map hd5
  obtain ⟨en1, en2, en3⟩ := en_ok E hE
  have hh : hdOk pw E = true := by
    rcases en3 with rfl | h
    · rfl
    · cases E with
      | nil => rfl
      | cons c E => exact hd_sep h
  have tt := pre.fin en1 hh
  have hT : (P' ++ E).length ≤ 30000 := by simp; omega
  generalize hT2 : P' ++ E = T at *
  have hdue5 : h5[h2.length]? = some (.lst due) := f5.at' _ _ (by omega) hdue
  obtain ⟨g, tk⟩ := tokens_text (h := h5.set h2.length (.lst (due ++ [endD (pos (1, 0) T).1 (pos (1, 0) T).2]))) tt (by omega)
  have hset : (h5.set h2.length (.lst (due ++ [endD (pos (1, 0) T).1 (pos (1, 0) T).2])))[h2.length]? = some (.lst (due ++ [endD (pos (1, 0) T).1 (pos (1, 0) T).2])) := List.getElem?_set_self (get_lt hdue5)
  have E6 : B6 (LS T h2.length k w x5 x6 x7) h5 = .nx (LS T h2.length k w x5 x6 x7) (h5.set h2.length (.lst (due ++ [endD (pos (1, 0) T).1 (pos (1, 0) T).2]))) := by
    unfold B6 endD
    have cn := pos_cn T
    have rf := pos_rf T
    have sT : (S T).length ≤ 1000000 := by rw [S_len]; omega
    have dl : due.length < 1000000 := by omega
    clear hset tk hT2 e1 e3 pk gt ha pk5 gt5 ha5 hdue
    walk_at "pm"
  have hall : ∀ x ∈ due ++ [endD (pos (1, 0) T).1 (pos (1, 0) T).2], TokLike x := fun x hx => by
    rcases List.mem_append.mp hx with hx | hx
    · exact ht x hx
    · rw [List.mem_singleton.mp hx]; exact ⟨ls "end", [], _, _, by decide, by decide, rfl⟩
  generalize hD : due ++ [endD (pos (1, 0) T).1 (pos (1, 0) T).2] = due' at *
  generalize h5.set h2.length (.lst due') = h6 at *
  have ga : (h6 ++ .lst due' :: g)[h6.length]? = some (.lst due') := get_new
  have gb : (h6 ++ .lst due' :: g)[h2.length]? = some (.lst due') := by rw [List.getElem?_append_left (get_lt hset)]; exact hset
  have eqd : eqG true (.ref h6.length) (.ref h2.length) (h6 ++ .lst due' :: g) = some (.bl false, h6 ++ .lst due' :: g) := by
    unfold eqG
    rw [eq_toks ga gb hall]; rfl
  obtain ⟨h9, e9⟩ := last_ok (s := [some (.ref 0), some (.ref 2), some (.str (S T)), some (.ref h2.length), some (.tup [.str (S k), .str (S w)]), x5, x6, x7, some (.ref h6.length)]) (h := h6 ++ .lst due' :: g)
  have E1 : B1 [some (.ref 0), none, none, none, none, none, none, none, none] [.rdl (ns.map D.int)] = .nx [some (.ref 0), some (.ref 2), none, none, none, none, none, none, none] h1 := by
    unfold B1
    clear e3 pk gt ha pk5 gt5 ha5 hdue hT2 e9 eqd ga gb E6 tk hset hdue5 hD
    walk_at "pm"
  have E2 : B2 [some (.ref 0), some (.ref 2), none, none, none, none, none, none, none] h1 = .nx [some (.ref 0), some (.ref 2), some (.str (S P)), none, none, none, none, none, none] h2 := by
    unfold B2
    have : (BG.map fun w => D.str (S w)) = [.str "", .str "", .str " ", .str "\n", .str "# begin\n  "] := rfl
    rw [this] at pk gt ha
    clear e1 e3 pk5 gt5 ha5 hdue hT2 e9 eqd ga gb E6 tk hset hdue5 hD E1 this hlen
    walk_at "pm"
  have E3 : B3 [some (.ref 0), some (.ref 2), some (.str (S P)), none, none, none, none, none, none] h2 = .nx [some (.ref 0), some (.ref 2), some (.str (S P)), some (.ref h2.length), none, none, none, none, none] (h2 ++ [.lst []]) := by
    unfold B3
    clear e1 e3 pk5 gt5 ha5 hdue hT2 e9 eqd ga gb E6 tk hset hdue5 hD E1 E2 hlen pk gt ha
    walk_at "pm"
  have E4 : B4 [some (.ref 0), some (.ref 2), some (.str (S P)), some (.ref h2.length), none, none, none, none, none] (h2 ++ [.lst []]) = .nx [some (.ref 0), some (.ref 2), some (.str (S P)), some (.ref h2.length), some (.tup [.str "sign", .str "("]), none, none, none, none] (h2 ++ [.lst []]) := by
    unfold B4
    clear e1 e3 pk5 gt5 ha5 hdue hT2 e9 eqd ga gb E6 tk hset hdue5 hD E1 E2 E3 hlen pk gt ha
    walk_at "pm"
  have E5 : B5 (LS P' h2.length k w x5 x6 x7) h3 = .nx (LS T h2.length k w x5 x6 x7) h5 := by
    unfold B5
    have : (EN.map fun w => D.str (S w)) = [.str "", .str " ", .str "\n", .str "\n  ", .str " # the end"] := rfl
    rw [this] at pk5 gt5 ha5
    have ad : ∀ h, addG (.str (S P')) (.str (S E)) h = some (.str (S T), h) := fun h => by rw [← hT2]; exact add_S (by omega)
    clear e1 e3 hdue hT2 e9 eqd ga gb E6 tk hset hdue5 hD E1 E2 E3 E4 hlen pk gt ha this
    walk_at "pm"
  have E7 : B7 (LS T h2.length k w x5 x6 x7) h6 = .nx [some (.ref 0), some (.ref 2), some (.str (S T)), some (.ref h2.length), some (.tup [.str (S k), .str (S w)]), x5, x6, x7, some (.ref h6.length)] (h6 ++ .lst due' :: g) := by
    unfold B7
    clear e1 e3 hdue hT2 e9 eqd ga gb E6 hset hdue5 hD E1 E2 E3 E4 E5 hlen pk gt ha pk5 gt5 ha5
    walk_at "pm"
  have E8 : B8 [some (.ref 0), some (.ref 2), some (.str (S T)), some (.ref h2.length), some (.tup [.str (S k), .str (S w)]), x5, x6, x7, some (.ref h6.length)] (h6 ++ .lst due' :: g) = .nx [some (.ref 0), some (.ref 2), some (.str (S T)), some (.ref h2.length), some (.tup [.str (S k), .str (S w)]), x5, x6, x7, some (.ref h6.length)] (h6 ++ .lst due' :: g) := by
    unfold B8
    clear e1 e3 hdue hT2 e9 gb E6 hset hdue5 hD E1 E2 E3 E4 E5 E7 hlen pk gt ha pk5 gt5 ha5 tk
    walk_at "pm"
  refine ⟨h9, ?_⟩
  unfold m_law
  rw [runDef_ap, b_law_eq]
  show fin ((mSeq B1 _) [some (.ref 0), none, none, none, none, none, none, none, none] _) = _
  rw [mSeq_ap, E1, seq_nx, mSeq_ap, E2, seq_nx, mSeq_ap, E3, seq_nx, mSeq_ap, E4, seq_nx, mSeq_ap, e3, seq_nx, mSeq_ap, E5, seq_nx, mSeq_ap, E6, seq_nx, mSeq_ap, E7, seq_nx, mSeq_ap, E8, seq_nx, e9, fin_rt]
end K00
end
section
set_option Elab.async false
set_option linter.all false
set_option maxRecDepth 100000
set_option maxHeartbeats 4000000
namespace K00
open PySem PySem.Spec PyProof.Rows L2 PM
def topS (i : Nat) : Stmt := PySem.Challenge.pw_sheetwatch_k00_tokens_of_rules.main.body.getD i (.Pass ⟨0, 0, 0, 0⟩)

/-! _law_mix -/
abbrev s_u_law_mix : Stmt := topS 25
abbrev N_u_law_mix : List Str := ["cell", "k", "low"]
abbrev P_u_law_mix : List Str := ["cell", "k"]
theorem sc_u_law_mix : FnScope N_u_law_mix P_u_law_mix (defScope s_u_law_mix) := ⟨rfl, rfl, rfl, by decide +kernel, rfl, by decide +kernel, by decide +kernel⟩


/-! _law_stream -/
abbrev s_u_law_stream : Stmt := topS 26
abbrev N_u_law_stream : List Str := ["script", "most", "row", "k", "rest", "j"]
abbrev P_u_law_stream : List Str := ["script", "most"]
theorem sc_u_law_stream : FnScope N_u_law_stream P_u_law_stream (defScope s_u_law_stream) := ⟨rfl, rfl, rfl, by decide +kernel, rfl, by decide +kernel, by decide +kernel⟩


/-! _law_pick -/
abbrev s_u_law_pick : Stmt := topS 27
abbrev N_u_law_pick : List Str := ["draws", "many", "at", "number"]
abbrev P_u_law_pick : List Str := ["draws", "many"]
theorem sc_u_law_pick : FnScope N_u_law_pick P_u_law_pick (defScope s_u_law_pick) := ⟨rfl, rfl, rfl, by decide +kernel, rfl, by decide +kernel, by decide +kernel⟩


/-! _law_keywords -/
abbrev s_u_law_keywords : Stmt := topS 28
abbrev N_u_law_keywords : List Str := ["words"]
abbrev P_u_law_keywords : List Str := []
theorem sc_u_law_keywords : FnScope N_u_law_keywords P_u_law_keywords (defScope s_u_law_keywords) := ⟨rfl, rfl, rfl, by decide +kernel, rfl, by decide +kernel, by decide +kernel⟩


/-! _law_word -/
abbrev s_u_law_word : Stmt := topS 29
abbrev N_u_law_word : List Str := ["draws", "pick", "names"]
abbrev P_u_law_word : List Str := ["draws"]
theorem sc_u_law_word : FnScope N_u_law_word P_u_law_word (defScope s_u_law_word) := ⟨rfl, rfl, rfl, by decide +kernel, rfl, by decide +kernel, by decide +kernel⟩


/-! _law_alone -/
abbrev s_u_law_alone : Stmt := topS 30
abbrev N_u_law_alone : List Str := ["kind", "text"]
abbrev P_u_law_alone : List Str := ["kind", "text"]
theorem sc_u_law_alone : FnScope N_u_law_alone P_u_law_alone (defScope s_u_law_alone) := ⟨rfl, rfl, rfl, by decide +kernel, rfl, by decide +kernel, by decide +kernel⟩


/-! _law_between -/
abbrev s_u_law_between : Stmt := topS 31
abbrev N_u_law_between : List Str := ["draws", "first"]
abbrev P_u_law_between : List Str := ["draws"]
theorem sc_u_law_between : FnScope N_u_law_between P_u_law_between (defScope s_u_law_between) := ⟨rfl, rfl, rfl, by decide +kernel, rfl, by decide +kernel, by decide +kernel⟩


/-! _is_allowed -/
abbrev s_u_is_allowed : Stmt := topS 23
abbrev N_u_is_allowed : List Str := ["character"]
abbrev P_u_is_allowed : List Str := ["character"]
theorem sc_u_is_allowed : FnScope N_u_is_allowed P_u_is_allowed (defScope s_u_is_allowed) := ⟨rfl, rfl, rfl, by decide +kernel, rfl, by decide +kernel, by decide +kernel⟩


/-! end_of_text -/
abbrev s_end_of_text : Stmt := topS 22
abbrev N_end_of_text : List Str := ["line", "at", "first", "second_mark", "character"]
abbrev P_end_of_text : List Str := ["line", "at"]
theorem sc_end_of_text : FnScope N_end_of_text P_end_of_text (defScope s_end_of_text) := ⟨rfl, rfl, rfl, by decide +kernel, rfl, by decide +kernel, by decide +kernel⟩


/-! end_of_word -/
abbrev s_end_of_word : Stmt := topS 20
abbrev N_end_of_word : List Str := ["line", "at", "behind"]
abbrev P_end_of_word : List Str := ["line", "at"]
theorem sc_end_of_word : FnScope N_end_of_word P_end_of_word (defScope s_end_of_word) := ⟨rfl, rfl, rfl, by decide +kernel, rfl, by decide +kernel, by decide +kernel⟩


/-! is_number -/
abbrev s_is_number : Stmt := topS 21
abbrev N_is_number : List Str := ["word", "character"]
abbrev P_is_number : List Str := ["word"]
theorem sc_is_number : FnScope N_is_number P_is_number (defScope s_is_number) := ⟨rfl, rfl, rfl, by decide +kernel, rfl, by decide +kernel, by decide +kernel⟩


/-! _sign_at -/
abbrev s_u_sign_at : Stmt := topS 19
abbrev N_u_sign_at : List Str := ["line", "at", "length", "sign"]
abbrev P_u_sign_at : List Str := ["line", "at"]
theorem sc_u_sign_at : FnScope N_u_sign_at P_u_sign_at (defScope s_u_sign_at) := ⟨rfl, rfl, rfl, by decide +kernel, rfl, by decide +kernel, by decide +kernel⟩


/-! _token_at -/
abbrev s_u_token_at : Stmt := topS 18
abbrev N_u_token_at : List Str := ["line", "row", "at", "first", "behind", "word", "sign"]
abbrev P_u_token_at : List Str := ["line", "row", "at"]
theorem sc_u_token_at : FnScope N_u_token_at P_u_token_at (defScope s_u_token_at) := ⟨rfl, rfl, rfl, by decide +kernel, rfl, by decide +kernel, by decide +kernel⟩


/-! _tokens_of_row -/
abbrev s_u_tokens_of_row : Stmt := topS 17
abbrev N_u_tokens_of_row : List Str := ["line", "row", "found", "at", "kind", "text", "behind"]
abbrev P_u_tokens_of_row : List Str := ["line", "row"]
theorem sc_u_tokens_of_row : FnScope N_u_tokens_of_row P_u_tokens_of_row (defScope s_u_tokens_of_row) := ⟨rfl, rfl, rfl, by decide +kernel, rfl, by decide +kernel, by decide +kernel⟩


/-! tokens -/
abbrev s_tokens : Stmt := topS 16
abbrev N_tokens : List Str := ["text", "found", "lines", "row", "line"]
abbrev P_tokens : List Str := ["text"]
theorem sc_tokens : FnScope N_tokens P_tokens (defScope s_tokens) := ⟨rfl, rfl, rfl, by decide +kernel, rfl, by decide +kernel, by decide +kernel⟩


/-! law -/
abbrev s_law : Stmt := topS 32
abbrev N_law : List Str := ["script", "draws", "text", "due", "last", "k", "kind", "word", "actual"]
abbrev P_law : List Str := ["script"]
theorem sc_law : FnScope N_law P_law (defScope s_law) := ⟨rfl, rfl, rfl, by decide +kernel, rfl, by decide +kernel, by decide +kernel⟩


/-! what the top has left -/
structure Txt (K : PySem.W.Frag) (mg : Str → Option Value) : Prop where
  d_u_law_mix : ∃ fd, FnP K "_law_mix" s_u_law_mix (He.ga K "_law_mix") fd
  a_u_law_mix : mg "_law_mix" = some (.ref (He.ga K "_law_mix"))
  d_u_law_stream : ∃ fd, FnP K "_law_stream" s_u_law_stream (He.ga K "_law_stream") fd
  a_u_law_stream : mg "_law_stream" = some (.ref (He.ga K "_law_stream"))
  d_u_law_pick : ∃ fd, FnP K "_law_pick" s_u_law_pick (He.ga K "_law_pick") fd
  a_u_law_pick : mg "_law_pick" = some (.ref (He.ga K "_law_pick"))
  d_u_law_keywords : ∃ fd, FnP K "_law_keywords" s_u_law_keywords (He.ga K "_law_keywords") fd
  a_u_law_keywords : mg "_law_keywords" = some (.ref (He.ga K "_law_keywords"))
  d_u_law_word : ∃ fd, FnP K "_law_word" s_u_law_word (He.ga K "_law_word") fd
  a_u_law_word : mg "_law_word" = some (.ref (He.ga K "_law_word"))
  d_u_law_alone : ∃ fd, FnP K "_law_alone" s_u_law_alone (He.ga K "_law_alone") fd
  a_u_law_alone : mg "_law_alone" = some (.ref (He.ga K "_law_alone"))
  d_u_law_between : ∃ fd, FnP K "_law_between" s_u_law_between (He.ga K "_law_between") fd
  a_u_law_between : mg "_law_between" = some (.ref (He.ga K "_law_between"))
  d_u_is_allowed : ∃ fd, FnP K "_is_allowed" s_u_is_allowed (He.ga K "_is_allowed") fd
  a_u_is_allowed : mg "_is_allowed" = some (.ref (He.ga K "_is_allowed"))
  d_end_of_text : ∃ fd, FnP K "end_of_text" s_end_of_text (He.ga K "end_of_text") fd
  a_end_of_text : mg "end_of_text" = some (.ref (He.ga K "end_of_text"))
  d_end_of_word : ∃ fd, FnP K "end_of_word" s_end_of_word (He.ga K "end_of_word") fd
  a_end_of_word : mg "end_of_word" = some (.ref (He.ga K "end_of_word"))
  d_is_number : ∃ fd, FnP K "is_number" s_is_number (He.ga K "is_number") fd
  a_is_number : mg "is_number" = some (.ref (He.ga K "is_number"))
  d_u_sign_at : ∃ fd, FnP K "_sign_at" s_u_sign_at (He.ga K "_sign_at") fd
  a_u_sign_at : mg "_sign_at" = some (.ref (He.ga K "_sign_at"))
  d_u_token_at : ∃ fd, FnP K "_token_at" s_u_token_at (He.ga K "_token_at") fd
  a_u_token_at : mg "_token_at" = some (.ref (He.ga K "_token_at"))
  d_u_tokens_of_row : ∃ fd, FnP K "_tokens_of_row" s_u_tokens_of_row (He.ga K "_tokens_of_row") fd
  a_u_tokens_of_row : mg "_tokens_of_row" = some (.ref (He.ga K "_tokens_of_row"))
  d_tokens : ∃ fd, FnP K "tokens" s_tokens (He.ga K "tokens") fd
  a_tokens : mg "tokens" = some (.ref (He.ga K "tokens"))
  d_law : ∃ fd, FnP K "law" s_law (He.ga K "law") fd
  a_law : mg "law" = some (.ref (He.ga K "law"))
  g_KEYWORDS : GConst K mg "KEYWORDS" c_KEYWORDS
  g_SIGNS : GConst K mg "SIGNS" c_SIGNS
  g_LETTERS : GConst K mg "LETTERS" c_LETTERS
  g_DIGITS : GConst K mg "DIGITS" c_DIGITS
  g_LARGEST_NUMBER : GConst K mg "LARGEST_NUMBER" c_LARGEST_NUMBER
  g_LARGEST_NUMBER_LENGTH : GConst K mg "LARGEST_NUMBER_LENGTH" c_LARGEST_NUMBER_LENGTH
  g_LONGEST_TEXT : GConst K mg "LONGEST_TEXT" c_LONGEST_TEXT
  g_PERCENT_SIGN : GConst K mg "PERCENT_SIGN" c_PERCENT_SIGN
  g_BACKSLASH : GConst K mg "BACKSLASH" c_BACKSLASH
  z_range : mg "range" = none
  z_min : mg "min" = none
  z_len : mg "len" = none
  z_int : mg "int" = none
  z_enumerate : mg "enumerate" = none
  z_all : mg "all" = none
  z_ord : mg "ord" = none
  z_isinstance : mg "isinstance" = none
  z_list : mg "list" = none
  z_tuple : mg "tuple" = none
theorem bo_min : bootBuiltins "min" = some (.builtin "min") := by decide +kernel
theorem bo_len : bootBuiltins "len" = some (.builtin "len") := by decide +kernel
theorem bo_int : bootBuiltins "int" = some (.type "int") := by decide +kernel
theorem bo_all : bootBuiltins "all" = some (.builtin "all") := by decide +kernel
theorem bo_ord : bootBuiltins "ord" = some (.builtin "ord") := by decide +kernel
theorem bo_isinstance : bootBuiltins "isinstance" = some (.builtin "isinstance") := by decide +kernel
theorem bo_list : bootBuiltins "list" = some (.type "list") := by decide +kernel
theorem bo_tuple : bootBuiltins "tuple" = some (.type "tuple") := by decide +kernel
section
variable {P : Program} {w : World} {K : PySem.W.Frag} {mg : Str → Option Value} {base : Heap}
theorem q_u_law_mix (T : Txt K mg) (cdv : Value) (A : Around) (outer : List Env) (s : Shared) (H : Hp) (E : XK) (hr : Room 0 (A.deeper (envOfC "_law_mix" (defScope s_u_law_mix) s.heap.objs.size (He.ga K "_law_mix") cdv))) : QSs (cxOf (L2.CX P w) P w K mg base N_u_law_mix "_law_mix" (defScope s_u_law_mix) (He.ga K "_law_mix") cdv A outer s H E) (fun cls d _ H => E cls d H) (defBody s_u_law_mix) b_u_law_mix := by
  have tk := takes_of (X := (cxOf (L2.CX P w) P w K mg base N_u_law_mix "_law_mix" (defScope s_u_law_mix) (He.ga K "_law_mix") cdv A outer s H E)) (E := E) rfl rfl rfl rfl
  have hp := passes_of (X := (cxOf (L2.CX P w) P w K mg base N_u_law_mix "_law_mix" (defScope s_u_law_mix) (He.ga K "_law_mix") cdv A outer s H E)) rfl
  have nd := sc_u_law_mix.nd
  exact (qss_cons (qs_set (i := 2) nd (qe_op op_modG (qe_callTy call_toIntG rfl T.z_int bo_int (qa_cons (qe_op op_addG (qe_op op_addG (qe_op op_mulG (qe_var (i := 0)) qe_int) (qe_op op_mulG (qe_var (i := 1)) qe_int)) qe_int) qa_nil)) qe_int))
      (qss_one (qs_ret (qe_op op_modG (qe_op op_modG (qe_callTy call_toIntG rfl T.z_int bo_int (qa_cons (qe_op op_addG (qe_op op_addG (qe_op op_addG (qe_op op_mulG (qe_var (i := 2)) (qe_var (i := 2))) (qe_op op_mulG (qe_var (i := 0)) qe_int)) (qe_op op_mulG (qe_var (i := 1)) qe_int)) qe_int) qa_nil)) qe_int) qe_int))))
theorem ok_u_law_mix (T : Txt K mg) : FnM P w K mg base 1 "_law_mix" P_u_law_mix m_u_law_mix := fnM_mk (N := N_u_law_mix) T.d_u_law_mix T.a_u_law_mix sc_u_law_mix (fun _ _ _ _ _ _ us hl => match us, hl with | [_, _], _ => rfl) (q_u_law_mix T)

theorem q_u_law_stream (T : Txt K mg) (cdv : Value) (A : Around) (outer : List Env) (s : Shared) (H : Hp) (E : XK) (hr : Room 1 (A.deeper (envOfC "_law_stream" (defScope s_u_law_stream) s.heap.objs.size (He.ga K "_law_stream") cdv))) : QSs (cxOf (L2.CX P w) P w K mg base N_u_law_stream "_law_stream" (defScope s_u_law_stream) (He.ga K "_law_stream") cdv A outer s H E) (fun cls d _ H => E cls d H) (defBody s_u_law_stream) b_u_law_stream := by
  have tk := takes_of (X := (cxOf (L2.CX P w) P w K mg base N_u_law_stream "_law_stream" (defScope s_u_law_stream) (He.ga K "_law_stream") cdv A outer s H E)) (E := E) rfl rfl rfl rfl
  have hp := passes_of (X := (cxOf (L2.CX P w) P w K mg base N_u_law_stream "_law_stream" (defScope s_u_law_stream) (He.ga K "_law_stream") cdv A outer s H E)) rfl
  have nd := sc_u_law_stream.nd
  exact (qss_cons (qs_set (i := 2) nd (qe_lst qa_nil))
      (qss_cons (qs_for (ms := L_u_law_stream_1) hp rfl (qi_range1 rfl T.z_range (qa_cons (qe_callB (call_min2G rfl) rfl T.z_min bo_min (qa_cons (qe_callB call_lenG rfl T.z_len bo_len (qa_cons (qe_var (i := 0)) qa_nil)) (qa_cons qe_int qa_nil))) qa_nil)) (qg_name nd) (qss_cons (qs_set (i := 4) nd (qe_sub (hu_of hr) (qe_var (i := 0)) (qe_var (i := 3))))
      (qss_one (qs_if (qt_cmp op_geG (qe_var (i := 4)) (qe_op op_powG qe_int qe_int)) (qss_one (qs_for (ms := L_u_law_stream_2) hp rfl (qi_range1 rfl T.z_range (qa_cons qe_int qa_nil)) (qg_name nd) (qss_one (qs_if (qt_w (qw_and (qt_cmp op_gtG (qe_var (i := 4)) qe_int) (qw_one (qt_cmp op_ltG (qe_callB call_lenG rfl T.z_len bo_len (qa_cons (qe_var (i := 2)) qa_nil)) (qe_var (i := 1)))))) (qss_cons (qs_drop (qe_bm PySem.F.plainAttrs_list PySem.F.slot_list_append PySem.F.type_list_append mt_appendG (qe_var (i := 2)) (qa_cons (qe_op op_modG (qe_callTy call_toIntG rfl T.z_int bo_int (qa_cons (qe_var (i := 4)) qa_nil)) qe_int) qa_nil)))
      (qss_one (qs_set (i := 4) nd (qe_op op_fdivG (qe_var (i := 4)) qe_int)))) qss_nil)))) (qss_one (qs_for (ms := L_u_law_stream_3) hp rfl (qi_range1 rfl T.z_range (qa_cons qe_int qa_nil)) (qg_name nd) (qss_one (qs_if (qt_cmp op_ltG (qe_callB call_lenG rfl T.z_len bo_len (qa_cons (qe_var (i := 2)) qa_nil)) (qe_var (i := 1))) (qss_one (qs_drop (qe_bm PySem.F.plainAttrs_list PySem.F.slot_list_append PySem.F.type_list_append mt_appendG (qe_var (i := 2)) (qa_cons (qf (ok_u_law_mix T) tk (hr.mono (by decide)) rfl rfl (qa_cons (qe_var (i := 4)) (qa_cons (qe_op op_addG (qe_op op_mulG qe_int (qe_var (i := 5))) (qe_var (i := 3))) qa_nil)) (len_cons (len_cons len_nil))) qa_nil)))) qss_nil))))))))
      (qss_one (qs_ret (qe_disp (qp_cons qe_str (qe_var (i := 2)) (qp_cons qe_str qe_int (qp_cons qe_str (qe_callB call_lenG rfl T.z_len bo_len (qa_cons (qe_var (i := 2)) qa_nil)) qp_nil))))))))
theorem ok_u_law_stream (T : Txt K mg) : FnM P w K mg base 2 "_law_stream" P_u_law_stream m_u_law_stream := fnM_mk (N := N_u_law_stream) T.d_u_law_stream T.a_u_law_stream sc_u_law_stream (fun _ _ _ _ _ _ us hl => match us, hl with | [_, _], _ => rfl) (q_u_law_stream T)

theorem q_u_law_pick (T : Txt K mg) (cdv : Value) (A : Around) (outer : List Env) (s : Shared) (H : Hp) (E : XK) (hr : Room 1 (A.deeper (envOfC "_law_pick" (defScope s_u_law_pick) s.heap.objs.size (He.ga K "_law_pick") cdv))) : QSs (cxOf (L2.CX P w) P w K mg base N_u_law_pick "_law_pick" (defScope s_u_law_pick) (He.ga K "_law_pick") cdv A outer s H E) (fun cls d _ H => E cls d H) (defBody s_u_law_pick) b_u_law_pick := by
  have tk := takes_of (X := (cxOf (L2.CX P w) P w K mg base N_u_law_pick "_law_pick" (defScope s_u_law_pick) (He.ga K "_law_pick") cdv A outer s H E)) (E := E) rfl rfl rfl rfl
  have hp := passes_of (X := (cxOf (L2.CX P w) P w K mg base N_u_law_pick "_law_pick" (defScope s_u_law_pick) (He.ga K "_law_pick") cdv A outer s H E)) rfl
  have nd := sc_u_law_pick.nd
  exact (qss_cons (qs_set (i := 2) nd (qe_sub (hu_of hr) (qe_var (i := 0)) qe_str))
      (qss_cons (qs_putD (hu_of hr) (qe_op op_addG (qe_var (i := 2)) qe_int) (qe_var (i := 0)) qe_str)
      (qss_cons (qs_set (i := 3) nd (qf (ok_u_law_mix T) tk (hr.mono (by decide)) rfl rfl (qa_cons (qe_sub (hu_of hr) (qe_var (i := 0)) qe_str) (qa_cons (qe_var (i := 2)) qa_nil)) (len_cons (len_cons len_nil))))
      (qss_cons (qs_if (qt_cmp op_ltG (qe_var (i := 2)) (qe_callB call_lenG rfl T.z_len bo_len (qa_cons (qe_sub (hu_of hr) (qe_var (i := 0)) qe_str) qa_nil))) (qss_one (qs_set (i := 3) nd (qe_sub (hu_of hr) (qe_sub (hu_of hr) (qe_var (i := 0)) qe_str) (qe_var (i := 2))))) qss_nil)
      (qss_one (qs_ret (qe_op op_modG (qe_callTy call_toIntG rfl T.z_int bo_int (qa_cons (qe_var (i := 3)) qa_nil)) (qe_var (i := 1)))))))))
theorem ok_u_law_pick (T : Txt K mg) : FnM P w K mg base 2 "_law_pick" P_u_law_pick m_u_law_pick := fnM_mk (N := N_u_law_pick) T.d_u_law_pick T.a_u_law_pick sc_u_law_pick (fun _ _ _ _ _ _ us hl => match us, hl with | [_, _], _ => rfl) (q_u_law_pick T)

theorem q_u_law_keywords (T : Txt K mg) (cdv : Value) (A : Around) (outer : List Env) (s : Shared) (H : Hp) (E : XK) (hr : Room 0 (A.deeper (envOfC "_law_keywords" (defScope s_u_law_keywords) s.heap.objs.size (He.ga K "_law_keywords") cdv))) : QSs (cxOf (L2.CX P w) P w K mg base N_u_law_keywords "_law_keywords" (defScope s_u_law_keywords) (He.ga K "_law_keywords") cdv A outer s H E) (fun cls d _ H => E cls d H) (defBody s_u_law_keywords) b_u_law_keywords := by
  have tk := takes_of (X := (cxOf (L2.CX P w) P w K mg base N_u_law_keywords "_law_keywords" (defScope s_u_law_keywords) (He.ga K "_law_keywords") cdv A outer s H E)) (E := E) rfl rfl rfl rfl
  have hp := passes_of (X := (cxOf (L2.CX P w) P w K mg base N_u_law_keywords "_law_keywords" (defScope s_u_law_keywords) (He.ga K "_law_keywords") cdv A outer s H E)) rfl
  have nd := sc_u_law_keywords.nd
  exact (qss_cons (qs_set (i := 0) nd (qe_lst (qa_cons qe_str (qa_cons qe_str (qa_cons qe_str (qa_cons qe_str (qa_cons qe_str (qa_cons qe_str (qa_cons qe_str (qa_cons qe_str (qa_cons qe_str (qa_cons qe_str (qa_cons qe_str (qa_cons qe_str (qa_cons qe_str qa_nil)))))))))))))))
      (qss_one (qs_ret (qe_op op_addG (qe_var (i := 0)) (qe_lst (qa_cons qe_str (qa_cons qe_str (qa_cons qe_str (qa_cons qe_str (qa_cons qe_str (qa_cons qe_str (qa_cons qe_str (qa_cons qe_str (qa_cons qe_str (qa_cons qe_str (qa_cons qe_str (qa_cons qe_str (qa_cons qe_str qa_nil))))))))))))))))))
theorem ok_u_law_keywords (T : Txt K mg) : FnM P w K mg base 1 "_law_keywords" P_u_law_keywords m_u_law_keywords := fnM_mk (N := N_u_law_keywords) T.d_u_law_keywords T.a_u_law_keywords sc_u_law_keywords (fun _ _ _ _ _ _ us hl => match us, hl with | [], _ => rfl) (q_u_law_keywords T)

theorem q_u_law_word (T : Txt K mg) (cdv : Value) (A : Around) (outer : List Env) (s : Shared) (H : Hp) (E : XK) (hr : Room 2 (A.deeper (envOfC "_law_word" (defScope s_u_law_word) s.heap.objs.size (He.ga K "_law_word") cdv))) : QSs (cxOf (L2.CX P w) P w K mg base N_u_law_word "_law_word" (defScope s_u_law_word) (He.ga K "_law_word") cdv A outer s H E) (fun cls d _ H => E cls d H) (defBody s_u_law_word) b_u_law_word := by
  have tk := takes_of (X := (cxOf (L2.CX P w) P w K mg base N_u_law_word "_law_word" (defScope s_u_law_word) (He.ga K "_law_word") cdv A outer s H E)) (E := E) rfl rfl rfl rfl
  have hp := passes_of (X := (cxOf (L2.CX P w) P w K mg base N_u_law_word "_law_word" (defScope s_u_law_word) (He.ga K "_law_word") cdv A outer s H E)) rfl
  have nd := sc_u_law_word.nd
  exact (qss_cons (qs_set (i := 1) nd (qf (ok_u_law_pick T) tk (hr.mono (by decide)) rfl rfl (qa_cons (qe_var (i := 0)) (qa_cons qe_int qa_nil)) (len_cons (len_cons len_nil))))
      (qss_cons (qs_if (qt_cmp op_ltG (qe_var (i := 1)) qe_int) (qss_cons (qs_set (i := 2) nd (qe_lst (qa_cons qe_str (qa_cons qe_str (qa_cons qe_str (qa_cons qe_str (qa_cons qe_str (qa_cons qe_str (qa_cons qe_str (qa_cons qe_str (qa_cons qe_str (qa_cons qe_str (qa_cons qe_str (qa_cons qe_str (qa_cons qe_str qa_nil)))))))))))))))
      (qss_one (qs_ret (qe_tup (qa_cons qe_str (qa_cons (qe_sub (hu_of hr) (qe_var (i := 2)) (qf (ok_u_law_pick T) tk (hr.mono (by decide)) rfl rfl (qa_cons (qe_var (i := 0)) (qa_cons qe_int qa_nil)) (len_cons (len_cons len_nil)))) qa_nil)))))) qss_nil)
      (qss_cons (qs_if (qt_cmp (op_eqG hr.units) (qe_var (i := 1)) qe_int) (qss_one (qs_ret (qe_tup (qa_cons qe_str (qa_cons (qe_sub (hu_of hr) (qe_lst (qa_cons qe_str (qa_cons qe_str (qa_cons qe_str (qa_cons qe_str (qa_cons qe_str (qa_cons qe_str (qa_cons qe_str qa_nil)))))))) (qf (ok_u_law_pick T) tk (hr.mono (by decide)) rfl rfl (qa_cons (qe_var (i := 0)) (qa_cons qe_int qa_nil)) (len_cons (len_cons len_nil)))) qa_nil))))) qss_nil)
      (qss_cons (qs_if (qt_cmp (op_eqG hr.units) (qe_var (i := 1)) qe_int) (qss_one (qs_ret (qe_tup (qa_cons qe_str (qa_cons (qe_sub (hu_of hr) (qe_lst (qa_cons qe_str (qa_cons qe_str (qa_cons qe_str (qa_cons qe_str (qa_cons qe_str (qa_cons qe_str (qa_cons qe_str (qa_cons (qe_op op_mulG qe_str qe_int) qa_nil))))))))) (qf (ok_u_law_pick T) tk (hr.mono (by decide)) rfl rfl (qa_cons (qe_var (i := 0)) (qa_cons qe_int qa_nil)) (len_cons (len_cons len_nil)))) qa_nil))))) qss_nil)
      (qss_cons (qs_if (qt_cmp op_ltG (qe_var (i := 1)) qe_int) (qss_one (qs_ret (qe_tup (qa_cons qe_str (qa_cons (qe_sub (hu_of hr) (qf0 (ok_u_law_keywords T) tk (hr.mono (by decide)) rfl) (qf (ok_u_law_pick T) tk (hr.mono (by decide)) rfl rfl (qa_cons (qe_var (i := 0)) (qa_cons qe_int qa_nil)) (len_cons (len_cons len_nil)))) qa_nil))))) qss_nil)
      (qss_cons (qs_if (qt_cmp (op_eqG hr.units) (qe_var (i := 1)) qe_int) (qss_one (qs_ret (qe_tup (qa_cons qe_str (qa_cons (qe_sub (hu_of hr) (qe_lst (qa_cons qe_str (qa_cons qe_str (qa_cons qe_str qa_nil)))) (qf (ok_u_law_pick T) tk (hr.mono (by decide)) rfl rfl (qa_cons (qe_var (i := 0)) (qa_cons qe_int qa_nil)) (len_cons (len_cons len_nil)))) qa_nil))))) qss_nil)
      (qss_one (qs_ret (qe_tup (qa_cons qe_str (qa_cons (qe_sub (hu_of hr) (qe_lst (qa_cons qe_str (qa_cons qe_str (qa_cons qe_str (qa_cons qe_str (qa_cons qe_str (qa_cons qe_str (qa_cons qe_str (qa_cons qe_str (qa_cons qe_str (qa_cons qe_str qa_nil))))))))))) (qf (ok_u_law_pick T) tk (hr.mono (by decide)) rfl rfl (qa_cons (qe_var (i := 0)) (qa_cons qe_int qa_nil)) (len_cons (len_cons len_nil)))) qa_nil)))))))))))
theorem ok_u_law_word (T : Txt K mg) : FnM P w K mg base 3 "_law_word" P_u_law_word m_u_law_word := fnM_mk (N := N_u_law_word) T.d_u_law_word T.a_u_law_word sc_u_law_word (fun _ _ _ _ _ _ us hl => match us, hl with | [_], _ => rfl) (q_u_law_word T)

theorem q_u_law_alone (T : Txt K mg) (cdv : Value) (A : Around) (outer : List Env) (s : Shared) (H : Hp) (E : XK) (hr : Room 0 (A.deeper (envOfC "_law_alone" (defScope s_u_law_alone) s.heap.objs.size (He.ga K "_law_alone") cdv))) : QSs (cxOf (L2.CX P w) P w K mg base N_u_law_alone "_law_alone" (defScope s_u_law_alone) (He.ga K "_law_alone") cdv A outer s H E) (fun cls d _ H => E cls d H) (defBody s_u_law_alone) b_u_law_alone := by
  have tk := takes_of (X := (cxOf (L2.CX P w) P w K mg base N_u_law_alone "_law_alone" (defScope s_u_law_alone) (He.ga K "_law_alone") cdv A outer s H E)) (E := E) rfl rfl rfl rfl
  have hp := passes_of (X := (cxOf (L2.CX P w) P w K mg base N_u_law_alone "_law_alone" (defScope s_u_law_alone) (He.ga K "_law_alone") cdv A outer s H E)) rfl
  have nd := sc_u_law_alone.nd
  exact (qss_one (qs_ret (qe_or (qe_cmp (op_eqG hr.units) (qe_var (i := 0)) qe_str) (qe_one (qe_cmp op_inG (qe_var (i := 1)) (qe_tup (qa_cons qe_str (qa_cons qe_str (qa_cons qe_str (qa_cons qe_str (qa_cons qe_str (qa_cons qe_str (qa_cons qe_str (qa_cons qe_str (qa_cons qe_str (qa_cons qe_str qa_nil))))))))))))))))
theorem ok_u_law_alone (T : Txt K mg) : FnM P w K mg base 1 "_law_alone" P_u_law_alone m_u_law_alone := fnM_mk (N := N_u_law_alone) T.d_u_law_alone T.a_u_law_alone sc_u_law_alone (fun _ _ _ _ _ _ us hl => match us, hl with | [_, _], _ => rfl) (q_u_law_alone T)

theorem q_u_law_between (T : Txt K mg) (cdv : Value) (A : Around) (outer : List Env) (s : Shared) (H : Hp) (E : XK) (hr : Room 2 (A.deeper (envOfC "_law_between" (defScope s_u_law_between) s.heap.objs.size (He.ga K "_law_between") cdv))) : QSs (cxOf (L2.CX P w) P w K mg base N_u_law_between "_law_between" (defScope s_u_law_between) (He.ga K "_law_between") cdv A outer s H E) (fun cls d _ H => E cls d H) (defBody s_u_law_between) b_u_law_between := by
  have tk := takes_of (X := (cxOf (L2.CX P w) P w K mg base N_u_law_between "_law_between" (defScope s_u_law_between) (He.ga K "_law_between") cdv A outer s H E)) (E := E) rfl rfl rfl rfl
  have hp := passes_of (X := (cxOf (L2.CX P w) P w K mg base N_u_law_between "_law_between" (defScope s_u_law_between) (He.ga K "_law_between") cdv A outer s H E)) rfl
  have nd := sc_u_law_between.nd
  exact (qss_cons (qs_set (i := 1) nd (qe_sub (hu_of hr) (qe_lst (qa_cons qe_str (qa_cons qe_str (qa_cons qe_str (qa_cons qe_str qa_nil))))) (qf (ok_u_law_pick T) tk (hr.mono (by decide)) rfl rfl (qa_cons (qe_var (i := 0)) (qa_cons qe_int qa_nil)) (len_cons (len_cons len_nil)))))
      (qss_one (qs_ret (qe_op op_addG (qe_var (i := 1)) (qe_sub (hu_of hr) (qe_lst (qa_cons qe_str (qa_cons qe_str (qa_cons qe_str (qa_cons qe_str (qa_cons qe_str (qa_cons qe_str (qa_cons qe_str qa_nil)))))))) (qf (ok_u_law_pick T) tk (hr.mono (by decide)) rfl rfl (qa_cons (qe_var (i := 0)) (qa_cons qe_int qa_nil)) (len_cons (len_cons len_nil))))))))
theorem ok_u_law_between (T : Txt K mg) : FnM P w K mg base 3 "_law_between" P_u_law_between m_u_law_between := fnM_mk (N := N_u_law_between) T.d_u_law_between T.a_u_law_between sc_u_law_between (fun _ _ _ _ _ _ us hl => match us, hl with | [_], _ => rfl) (q_u_law_between T)

theorem q_u_is_allowed (T : Txt K mg) (cdv : Value) (A : Around) (outer : List Env) (s : Shared) (H : Hp) (E : XK) (hr : Room 0 (A.deeper (envOfC "_is_allowed" (defScope s_u_is_allowed) s.heap.objs.size (He.ga K "_is_allowed") cdv))) : QSs (cxOf (L2.CX P w) P w K mg base N_u_is_allowed "_is_allowed" (defScope s_u_is_allowed) (He.ga K "_is_allowed") cdv A outer s H E) (fun cls d _ H => E cls d H) (defBody s_u_is_allowed) b_u_is_allowed := by
  have tk := takes_of (X := (cxOf (L2.CX P w) P w K mg base N_u_is_allowed "_is_allowed" (defScope s_u_is_allowed) (He.ga K "_is_allowed") cdv A outer s H E)) (E := E) rfl rfl rfl rfl
  have hp := passes_of (X := (cxOf (L2.CX P w) P w K mg base N_u_is_allowed "_is_allowed" (defScope s_u_is_allowed) (He.ga K "_is_allowed") cdv A outer s H E)) rfl
  have nd := sc_u_is_allowed.nd
  exact (qss_one (qs_ret (qe_and (qe_chain op_leG op_leG qe_str (qe_var (i := 0)) qe_str) (qe_one (qe_cmp op_ninG (qe_callB call_toOrdG rfl T.z_ord bo_ord (qa_cons (qe_var (i := 0)) qa_nil)) (qe_tup (qa_cons (qe_gc rfl T.g_PERCENT_SIGN) (qa_cons (qe_gc rfl T.g_BACKSLASH) qa_nil))))))))
theorem ok_u_is_allowed (T : Txt K mg) : FnM P w K mg base 1 "_is_allowed" P_u_is_allowed m_u_is_allowed := fnM_mk (N := N_u_is_allowed) T.d_u_is_allowed T.a_u_is_allowed sc_u_is_allowed (fun _ _ _ _ _ _ us hl => match us, hl with | [_], _ => rfl) (q_u_is_allowed T)

theorem q_end_of_text (T : Txt K mg) (cdv : Value) (A : Around) (outer : List Env) (s : Shared) (H : Hp) (E : XK) (hr : Room 1 (A.deeper (envOfC "end_of_text" (defScope s_end_of_text) s.heap.objs.size (He.ga K "end_of_text") cdv))) : QSs (cxOf (L2.CX P w) P w K mg base N_end_of_text "end_of_text" (defScope s_end_of_text) (He.ga K "end_of_text") cdv A outer s H E) (fun cls d _ H => E cls d H) (defBody s_end_of_text) b_end_of_text := by
  have tk := takes_of (X := (cxOf (L2.CX P w) P w K mg base N_end_of_text "end_of_text" (defScope s_end_of_text) (He.ga K "end_of_text") cdv A outer s H E)) (E := E) rfl rfl rfl rfl
  have hp := passes_of (X := (cxOf (L2.CX P w) P w K mg base N_end_of_text "end_of_text" (defScope s_end_of_text) (He.ga K "end_of_text") cdv A outer s H E)) rfl
  have nd := sc_end_of_text.nd
  exact (qss_cons (qs_set (i := 2) nd (qe_op op_addG (qe_var (i := 1)) qe_int))
      (qss_cons (qs_set (i := 3) nd (qe_bm PySem.F.plainAttrs_str PySem.F.slot_str_find PySem.F.type_str_find mt_find4G (qe_var (i := 0)) (qa_cons qe_str (qa_cons (qe_var (i := 2)) (qa_cons (qe_op op_addG (qe_op op_addG (qe_var (i := 2)) (qe_gc rfl T.g_LONGEST_TEXT)) qe_int) qa_nil)))))
      (qss_cons (qs_if (qt_cmp op_ltG (qe_var (i := 3)) qe_int) (qss_one (qs_ret qe_non)) qss_nil)
      (qss_cons (qs_if (qt_not (qt_val (qe_callB (call_allG rfl) rfl T.z_all bo_all (qa_cons (qe_lc (x := "character") (i := 4) rfl nd (qi_str (qe_slice sl_G (qe_var (i := 0)) (qo_some (qe_var (i := 2))) (qo_some (qe_var (i := 3))))) (blkOk_by (N := N_end_of_text) (sc := defScope s_end_of_text) (by decide +kernel)) (fun _ _ _ _ _ => pg_name (i := 4) nd rfl (Or.inl rfl)) (fun _ _ _ _ _ => qts_nil) (fun _ _ _ _ _ => (qf (ok_u_is_allowed T) takes0 (hr.mono (by decide)) rfl rfl (qa_cons (qe_var (i := 4)) qa_nil) (len_cons len_nil)))) qa_nil)))) (qss_one (qs_ret qe_non)) qss_nil)
      (qss_one (qs_ret (qe_op op_addG (qe_var (i := 3)) qe_int)))))))
theorem ok_end_of_text (T : Txt K mg) : FnM P w K mg base 2 "end_of_text" P_end_of_text m_end_of_text := fnM_mk (N := N_end_of_text) T.d_end_of_text T.a_end_of_text sc_end_of_text (fun _ _ _ _ _ _ us hl => match us, hl with | [_, _], _ => rfl) (q_end_of_text T)

theorem q_end_of_word (T : Txt K mg) (cdv : Value) (A : Around) (outer : List Env) (s : Shared) (H : Hp) (E : XK) (hr : Room 0 (A.deeper (envOfC "end_of_word" (defScope s_end_of_word) s.heap.objs.size (He.ga K "end_of_word") cdv))) : QSs (cxOf (L2.CX P w) P w K mg base N_end_of_word "end_of_word" (defScope s_end_of_word) (He.ga K "end_of_word") cdv A outer s H E) (fun cls d _ H => E cls d H) (defBody s_end_of_word) b_end_of_word := by
  have tk := takes_of (X := (cxOf (L2.CX P w) P w K mg base N_end_of_word "end_of_word" (defScope s_end_of_word) (He.ga K "end_of_word") cdv A outer s H E)) (E := E) rfl rfl rfl rfl
  have hp := passes_of (X := (cxOf (L2.CX P w) P w K mg base N_end_of_word "end_of_word" (defScope s_end_of_word) (He.ga K "end_of_word") cdv A outer s H E)) rfl
  have nd := sc_end_of_word.nd
  exact (qss_cons (qs_set (i := 2) nd (qe_var (i := 1)))
      (qss_cons (qs_while (ta := T_end_of_word_1) (ms := L_end_of_word_1) hp (qt_w (qw_and (qt_cmp op_ltG (qe_var (i := 2)) (qe_callB call_lenG rfl T.z_len bo_len (qa_cons (qe_var (i := 0)) qa_nil))) (qw_one (qt_w (qw_or (qt_cmp op_inG (qe_sub (hu_of hr) (qe_var (i := 0)) (qe_var (i := 2))) (qe_gc rfl T.g_LETTERS)) (qw_or (qt_cmp op_inG (qe_sub (hu_of hr) (qe_var (i := 0)) (qe_var (i := 2))) (qe_gc rfl T.g_DIGITS)) (qw_one' (qt_cmp (op_eqG hr.units) (qe_sub (hu_of hr) (qe_var (i := 0)) (qe_var (i := 2))) qe_str)))))))) (qss_one (qs_aug (i := 2) nd iop_iaddG qe_int)))
      (qss_one (qs_ret (qe_var (i := 2))))))
theorem ok_end_of_word (T : Txt K mg) : FnM P w K mg base 1 "end_of_word" P_end_of_word m_end_of_word := fnM_mk (N := N_end_of_word) T.d_end_of_word T.a_end_of_word sc_end_of_word (fun _ _ _ _ _ _ us hl => match us, hl with | [_, _], _ => rfl) (q_end_of_word T)

theorem q_is_number (T : Txt K mg) (cdv : Value) (A : Around) (outer : List Env) (s : Shared) (H : Hp) (E : XK) (hr : Room 0 (A.deeper (envOfC "is_number" (defScope s_is_number) s.heap.objs.size (He.ga K "is_number") cdv))) : QSs (cxOf (L2.CX P w) P w K mg base N_is_number "is_number" (defScope s_is_number) (He.ga K "is_number") cdv A outer s H E) (fun cls d _ H => E cls d H) (defBody s_is_number) b_is_number := by
  have tk := takes_of (X := (cxOf (L2.CX P w) P w K mg base N_is_number "is_number" (defScope s_is_number) (He.ga K "is_number") cdv A outer s H E)) (E := E) rfl rfl rfl rfl
  have hp := passes_of (X := (cxOf (L2.CX P w) P w K mg base N_is_number "is_number" (defScope s_is_number) (He.ga K "is_number") cdv A outer s H E)) rfl
  have nd := sc_is_number.nd
  exact (qss_cons (qs_if (qt_not (qt_val (qe_callB (call_allG rfl) rfl T.z_all bo_all (qa_cons (qe_lc (x := "character") (i := 1) rfl nd (qi_str (qe_var (i := 0))) (blkOk_by (N := N_is_number) (sc := defScope s_is_number) (by decide +kernel)) (fun _ _ _ _ _ => pg_name (i := 1) nd rfl (Or.inl rfl)) (fun _ _ _ _ _ => qts_nil) (fun _ _ _ _ _ => (qe_cmp op_inG (qe_var (i := 1)) (qe_gc rfl T.g_DIGITS)))) qa_nil)))) (qss_one (qs_ret qe_bl)) qss_nil)
      (qss_cons (qs_if (qt_cmp (op_eqG hr.units) (qe_sub (hu_of hr) (qe_var (i := 0)) qe_int) qe_str) (qss_one (qs_ret (qe_cmp (op_eqG hr.units) (qe_var (i := 0)) qe_str))) qss_nil)
      (qss_one (qs_ret (qe_and (qe_cmp op_leG (qe_callB call_lenG rfl T.z_len bo_len (qa_cons (qe_var (i := 0)) qa_nil)) (qe_gc rfl T.g_LARGEST_NUMBER_LENGTH)) (qe_one (qe_cmp op_leG (qe_callTy call_toIntG rfl T.z_int bo_int (qa_cons (qe_var (i := 0)) qa_nil)) (qe_gc rfl T.g_LARGEST_NUMBER))))))))
theorem ok_is_number (T : Txt K mg) : FnM P w K mg base 1 "is_number" P_is_number m_is_number := fnM_mk (N := N_is_number) T.d_is_number T.a_is_number sc_is_number (fun _ _ _ _ _ _ us hl => match us, hl with | [_], _ => rfl) (q_is_number T)

theorem q_u_sign_at (T : Txt K mg) (cdv : Value) (A : Around) (outer : List Env) (s : Shared) (H : Hp) (E : XK) (hr : Room 0 (A.deeper (envOfC "_sign_at" (defScope s_u_sign_at) s.heap.objs.size (He.ga K "_sign_at") cdv))) : QSs (cxOf (L2.CX P w) P w K mg base N_u_sign_at "_sign_at" (defScope s_u_sign_at) (He.ga K "_sign_at") cdv A outer s H E) (fun cls d _ H => E cls d H) (defBody s_u_sign_at) b_u_sign_at := by
  have tk := takes_of (X := (cxOf (L2.CX P w) P w K mg base N_u_sign_at "_sign_at" (defScope s_u_sign_at) (He.ga K "_sign_at") cdv A outer s H E)) (E := E) rfl rfl rfl rfl
  have hp := passes_of (X := (cxOf (L2.CX P w) P w K mg base N_u_sign_at "_sign_at" (defScope s_u_sign_at) (He.ga K "_sign_at") cdv A outer s H E)) rfl
  have nd := sc_u_sign_at.nd
  exact (qss_cons (qs_for (ms := L_u_sign_at_1) hp rfl (qi_tup (qe_tup (qa_cons qe_int (qa_cons qe_int qa_nil)))) (qg_name nd) (qss_cons (qs_set (i := 3) nd (qe_slice sl_G (qe_var (i := 0)) (qo_some (qe_var (i := 1))) (qo_some (qe_op op_addG (qe_var (i := 1)) (qe_var (i := 2))))))
      (qss_one (qs_if (qt_cmp op_inG (qe_var (i := 3)) (qe_gc rfl T.g_SIGNS)) (qss_one (qs_ret (qe_var (i := 3)))) qss_nil))))
      (qss_one (qs_ret qe_non)))
theorem ok_u_sign_at (T : Txt K mg) : FnM P w K mg base 1 "_sign_at" P_u_sign_at m_u_sign_at := fnM_mk (N := N_u_sign_at) T.d_u_sign_at T.a_u_sign_at sc_u_sign_at (fun _ _ _ _ _ _ us hl => match us, hl with | [_, _], _ => rfl) (q_u_sign_at T)

theorem q_u_token_at (T : Txt K mg) (cdv : Value) (A : Around) (outer : List Env) (s : Shared) (H : Hp) (E : XK) (hr : Room 2 (A.deeper (envOfC "_token_at" (defScope s_u_token_at) s.heap.objs.size (He.ga K "_token_at") cdv))) : QSs (cxOf (L2.CX P w) P w K mg base N_u_token_at "_token_at" (defScope s_u_token_at) (He.ga K "_token_at") cdv A outer s H E) (fun cls d _ H => E cls d H) (defBody s_u_token_at) b_u_token_at := by
  have tk := takes_of (X := (cxOf (L2.CX P w) P w K mg base N_u_token_at "_token_at" (defScope s_u_token_at) (He.ga K "_token_at") cdv A outer s H E)) (E := E) rfl rfl rfl rfl
  have hp := passes_of (X := (cxOf (L2.CX P w) P w K mg base N_u_token_at "_token_at" (defScope s_u_token_at) (He.ga K "_token_at") cdv A outer s H E)) rfl
  have nd := sc_u_token_at.nd
  exact (qss_cons (qs_set (i := 3) nd (qe_sub (hu_of hr) (qe_var (i := 0)) (qe_var (i := 2))))
      (qss_cons (qs_if (qt_cmp (op_eqG hr.units) (qe_var (i := 3)) qe_str) (qss_cons (qs_set (i := 4) nd (qf (ok_end_of_text T) tk (hr.mono (by decide)) rfl rfl (qa_cons (qe_var (i := 0)) (qa_cons (qe_var (i := 2)) qa_nil)) (len_cons (len_cons len_nil))))
      (qss_cons (qs_if (qt_cmp op_isG (qe_var (i := 4)) qe_non) (qss_one qs_never) qss_nil)
      (qss_one (qs_ret (qe_tup (qa_cons qe_str (qa_cons (qe_slice sl_G (qe_var (i := 0)) (qo_some (qe_op op_addG (qe_var (i := 2)) qe_int)) (qo_some (qe_op op_subG (qe_var (i := 4)) qe_int))) (qa_cons (qe_var (i := 4)) qa_nil)))))))) qss_nil)
      (qss_cons (qs_if (qt_cmp op_inG (qe_var (i := 3)) (qe_gc rfl T.g_DIGITS)) (qss_cons (qs_set (i := 4) nd (qf (ok_end_of_word T) tk (hr.mono (by decide)) rfl rfl (qa_cons (qe_var (i := 0)) (qa_cons (qe_var (i := 2)) qa_nil)) (len_cons (len_cons len_nil))))
      (qss_cons (qs_if (qt_not (qt_val (qf (ok_is_number T) tk (hr.mono (by decide)) rfl rfl (qa_cons (qe_slice sl_G (qe_var (i := 0)) (qo_some (qe_var (i := 2))) (qo_some (qe_var (i := 4)))) qa_nil) (len_cons len_nil)))) (qss_one qs_never) qss_nil)
      (qss_one (qs_ret (qe_tup (qa_cons qe_str (qa_cons (qe_slice sl_G (qe_var (i := 0)) (qo_some (qe_var (i := 2))) (qo_some (qe_var (i := 4)))) (qa_cons (qe_var (i := 4)) qa_nil)))))))) qss_nil)
      (qss_cons (qs_if (qt_cmp op_inG (qe_var (i := 3)) (qe_gc rfl T.g_LETTERS)) (qss_cons (qs_set (i := 4) nd (qf (ok_end_of_word T) tk (hr.mono (by decide)) rfl rfl (qa_cons (qe_var (i := 0)) (qa_cons (qe_var (i := 2)) qa_nil)) (len_cons (len_cons len_nil))))
      (qss_cons (qs_set (i := 5) nd (qe_slice sl_G (qe_var (i := 0)) (qo_some (qe_var (i := 2))) (qo_some (qe_var (i := 4)))))
      (qss_one (qs_ret (qe_tup (qa_cons (qe_ifExp (qt_cmp op_inG (qe_var (i := 5)) (qe_gc rfl T.g_KEYWORDS)) qe_str qe_str) (qa_cons (qe_var (i := 5)) (qa_cons (qe_var (i := 4)) qa_nil)))))))) qss_nil)
      (qss_cons (qs_set (i := 6) nd (qf (ok_u_sign_at T) tk (hr.mono (by decide)) rfl rfl (qa_cons (qe_var (i := 0)) (qa_cons (qe_var (i := 2)) qa_nil)) (len_cons (len_cons len_nil))))
      (qss_cons (qs_if (qt_cmp op_isG (qe_var (i := 6)) qe_non) (qss_one qs_never) qss_nil)
      (qss_one (qs_ret (qe_tup (qa_cons qe_str (qa_cons (qe_var (i := 6)) (qa_cons (qe_op op_addG (qe_var (i := 2)) (qe_callB call_lenG rfl T.z_len bo_len (qa_cons (qe_var (i := 6)) qa_nil))) qa_nil))))))))))))
theorem ok_u_token_at (T : Txt K mg) : FnM P w K mg base 3 "_token_at" P_u_token_at m_u_token_at := fnM_mk (N := N_u_token_at) T.d_u_token_at T.a_u_token_at sc_u_token_at (fun _ _ _ _ _ _ us hl => match us, hl with | [_, _, _], _ => rfl) (q_u_token_at T)

theorem q_u_tokens_of_row (T : Txt K mg) (cdv : Value) (A : Around) (outer : List Env) (s : Shared) (H : Hp) (E : XK) (hr : Room 3 (A.deeper (envOfC "_tokens_of_row" (defScope s_u_tokens_of_row) s.heap.objs.size (He.ga K "_tokens_of_row") cdv))) : QSs (cxOf (L2.CX P w) P w K mg base N_u_tokens_of_row "_tokens_of_row" (defScope s_u_tokens_of_row) (He.ga K "_tokens_of_row") cdv A outer s H E) (fun cls d _ H => E cls d H) (defBody s_u_tokens_of_row) b_u_tokens_of_row := by
  have tk := takes_of (X := (cxOf (L2.CX P w) P w K mg base N_u_tokens_of_row "_tokens_of_row" (defScope s_u_tokens_of_row) (He.ga K "_tokens_of_row") cdv A outer s H E)) (E := E) rfl rfl rfl rfl
  have hp := passes_of (X := (cxOf (L2.CX P w) P w K mg base N_u_tokens_of_row "_tokens_of_row" (defScope s_u_tokens_of_row) (He.ga K "_tokens_of_row") cdv A outer s H E)) rfl
  have nd := sc_u_tokens_of_row.nd
  exact (qss_cons (qs_set (i := 2) nd (qe_lst qa_nil))
      (qss_cons (qs_set (i := 3) nd qe_int)
      (qss_cons (qs_while (ta := T_u_tokens_of_row_1) (ms := L_u_tokens_of_row_1) hp (qt_w (qw_and (qt_cmp op_ltG (qe_var (i := 3)) (qe_callB call_lenG rfl T.z_len bo_len (qa_cons (qe_var (i := 0)) qa_nil))) (qw_one (qt_cmp (op_neG hr.units) (qe_sub (hu_of hr) (qe_var (i := 0)) (qe_var (i := 3))) qe_str)))) (qss_one (qs_if (qt_cmp (op_eqG hr.units) (qe_sub (hu_of hr) (qe_var (i := 0)) (qe_var (i := 3))) qe_str) (qss_one (qs_aug (i := 3) nd iop_iaddG qe_int)) (qss_cons (qs_asg (qf (ok_u_token_at T) tk (hr.mono (by decide)) rfl rfl (qa_cons (qe_var (i := 0)) (qa_cons (qe_var (i := 1)) (qa_cons (qe_var (i := 3)) qa_nil))) (len_cons (len_cons (len_cons len_nil)))) (qg_tup rfl (qgs_cons (qg_name nd) (qgs_cons (qg_name nd) (qgs_cons (qg_name nd) qgs_nil)))))
      (qss_cons (qs_drop (qe_bm PySem.F.plainAttrs_list PySem.F.slot_list_append PySem.F.type_list_append mt_appendG (qe_var (i := 2)) (qa_cons (qe_tup (qa_cons (qe_var (i := 4)) (qa_cons (qe_var (i := 5)) (qa_cons (qe_var (i := 1)) (qa_cons (qe_op op_addG (qe_var (i := 3)) qe_int) qa_nil))))) qa_nil)))
      (qss_one (qs_set (i := 3) nd (qe_var (i := 6)))))))))
      (qss_one (qs_ret (qe_var (i := 2)))))))
theorem ok_u_tokens_of_row (T : Txt K mg) : FnM P w K mg base 4 "_tokens_of_row" P_u_tokens_of_row m_u_tokens_of_row := fnM_mk (N := N_u_tokens_of_row) T.d_u_tokens_of_row T.a_u_tokens_of_row sc_u_tokens_of_row (fun _ _ _ _ _ _ us hl => match us, hl with | [_, _], _ => rfl) (q_u_tokens_of_row T)

theorem q_tokens (T : Txt K mg) (cdv : Value) (A : Around) (outer : List Env) (s : Shared) (H : Hp) (E : XK) (hr : Room 4 (A.deeper (envOfC "tokens" (defScope s_tokens) s.heap.objs.size (He.ga K "tokens") cdv))) : QSs (cxOf (L2.CX P w) P w K mg base N_tokens "tokens" (defScope s_tokens) (He.ga K "tokens") cdv A outer s H E) (fun cls d _ H => E cls d H) (defBody s_tokens) b_tokens := by
  have tk := takes_of (X := (cxOf (L2.CX P w) P w K mg base N_tokens "tokens" (defScope s_tokens) (He.ga K "tokens") cdv A outer s H E)) (E := E) rfl rfl rfl rfl
  have hp := passes_of (X := (cxOf (L2.CX P w) P w K mg base N_tokens "tokens" (defScope s_tokens) (He.ga K "tokens") cdv A outer s H E)) rfl
  have nd := sc_tokens.nd
  exact (qss_cons (qs_set (i := 1) nd (qe_lst qa_nil))
      (qss_cons (qs_set (i := 2) nd (qe_bm PySem.F.plainAttrs_str PySem.F.slot_str_split PySem.F.type_str_split mt_splitG (qe_var (i := 0)) (qa_cons qe_str qa_nil)))
      (qss_cons (qs_for (ms := L_tokens_1) hp rfl (qi_enum (by decide) (by decide) rfl T.z_enumerate (qa_cons (qe_var (i := 2)) qa_nil)) (qg_tup rfl (qgs_cons (qg_name nd) (qgs_cons (qg_name nd) qgs_nil))) (qss_one (qs_drop (qe_bm PySem.F.plainAttrs_list PySem.F.slot_list_extend PySem.F.type_list_extend mt_extendG (qe_var (i := 1)) (qa_cons (qf (ok_u_tokens_of_row T) tk (hr.mono (by decide)) rfl rfl (qa_cons (qe_var (i := 4)) (qa_cons (qe_var (i := 3)) qa_nil)) (len_cons (len_cons len_nil))) qa_nil)))))
      (qss_cons (qs_drop (qe_bm PySem.F.plainAttrs_list PySem.F.slot_list_append PySem.F.type_list_append mt_appendG (qe_var (i := 1)) (qa_cons (qe_tup (qa_cons qe_str (qa_cons qe_str (qa_cons (qe_callB call_lenG rfl T.z_len bo_len (qa_cons (qe_var (i := 2)) qa_nil)) (qa_cons (qe_op op_addG (qe_callB call_lenG rfl T.z_len bo_len (qa_cons (qe_sub (hu_of hr) (qe_var (i := 2)) (qe_un un_negG qe_int)) qa_nil)) qe_int) qa_nil))))) qa_nil)))
      (qss_one (qs_ret (qe_var (i := 1))))))))
theorem ok_tokens (T : Txt K mg) : FnM P w K mg base 5 "tokens" P_tokens m_tokens := fnM_mk (N := N_tokens) T.d_tokens T.a_tokens sc_tokens (fun _ _ _ _ _ _ us hl => match us, hl with | [_], _ => rfl) (q_tokens T)

theorem q_law (T : Txt K mg) (cdv : Value) (A : Around) (outer : List Env) (s : Shared) (H : Hp) (E : XK) (hr : Room 5 (A.deeper (envOfC "law" (defScope s_law) s.heap.objs.size (He.ga K "law") cdv))) : QSs (cxOf (L2.CX P w) P w K mg base N_law "law" (defScope s_law) (He.ga K "law") cdv A outer s H E) (fun cls d _ H => E cls d H) (defBody s_law) b_law := by
  have tk := takes_of (X := (cxOf (L2.CX P w) P w K mg base N_law "law" (defScope s_law) (He.ga K "law") cdv A outer s H E)) (E := E) rfl rfl rfl rfl
  have hp := passes_of (X := (cxOf (L2.CX P w) P w K mg base N_law "law" (defScope s_law) (He.ga K "law") cdv A outer s H E)) rfl
  have nd := sc_law.nd
  exact (qss_cons (qs_set (i := 1) nd (qf (ok_u_law_stream T) tk (hr.mono (by decide)) rfl rfl (qa_cons (qe_var (i := 0)) (qa_cons qe_int qa_nil)) (len_cons (len_cons len_nil))))
      (qss_cons (qs_set (i := 2) nd (qe_sub (hu_of hr) (qe_lst (qa_cons qe_str (qa_cons qe_str (qa_cons qe_str (qa_cons qe_str (qa_cons qe_str qa_nil)))))) (qf (ok_u_law_pick T) tk (hr.mono (by decide)) rfl rfl (qa_cons (qe_var (i := 1)) (qa_cons qe_int qa_nil)) (len_cons (len_cons len_nil)))))
      (qss_cons (qs_set (i := 3) nd (qe_lst qa_nil))
      (qss_cons (qs_set (i := 4) nd (qe_tup (qa_cons qe_str (qa_cons qe_str qa_nil))))
      (qss_cons (qs_for (ms := L_law_1) hp rfl (qi_range1 rfl T.z_range (qa_cons (qe_callB (call_min2G rfl) rfl T.z_min bo_min (qa_cons qe_int (qa_cons (qe_op op_addG qe_int (qe_op op_fdivG (qe_callB call_lenG rfl T.z_len bo_len (qa_cons (qe_sub (hu_of hr) (qe_var (i := 1)) qe_str) qa_nil)) qe_int)) qa_nil))) qa_nil)) (qg_name nd) (qss_cons (qs_asg (qf (ok_u_law_word T) tk (hr.mono (by decide)) rfl rfl (qa_cons (qe_var (i := 1)) qa_nil) (len_cons len_nil)) (qg_tup rfl (qgs_cons (qg_name nd) (qgs_cons (qg_name nd) qgs_nil))))
      (qss_cons (qs_if (qt_w (qw_or (qt_not (qt_w (qw_or (qt_val (qf (ok_u_law_alone T) tk (hr.mono (by decide)) rfl rfl (qa_cons (qe_sub (hu_of hr) (qe_var (i := 4)) qe_int) (qa_cons (qe_sub (hu_of hr) (qe_var (i := 4)) qe_int) qa_nil)) (len_cons (len_cons len_nil)))) (qw_one' (qt_val (qf (ok_u_law_alone T) tk (hr.mono (by decide)) rfl rfl (qa_cons (qe_var (i := 6)) (qa_cons (qe_var (i := 7)) qa_nil)) (len_cons (len_cons len_nil)))))))) (qw_one' (qt_cmp (op_eqG hr.units) (qf (ok_u_law_pick T) tk (hr.mono (by decide)) rfl rfl (qa_cons (qe_var (i := 1)) (qa_cons qe_int qa_nil)) (len_cons (len_cons len_nil))) qe_int)))) (qss_one (qs_if (qt_cmp op_gtG (qe_var (i := 5)) qe_int) (qss_one (qs_set (i := 2) nd (qe_op op_addG (qe_var (i := 2)) (qf (ok_u_law_between T) tk (hr.mono (by decide)) rfl rfl (qa_cons (qe_var (i := 1)) qa_nil) (len_cons len_nil))))) qss_nil)) qss_nil)
      (qss_cons (qs_drop (qe_bm PySem.F.plainAttrs_list PySem.F.slot_list_append PySem.F.type_list_append mt_appendG (qe_var (i := 3)) (qa_cons (qe_tup (qa_cons (qe_var (i := 6)) (qa_cons (qe_var (i := 7)) (qa_cons (qe_op op_addG (qe_bm PySem.F.plainAttrs_str PySem.F.slot_str_count PySem.F.type_str_count (mt_strI mt_count) (qe_var (i := 2)) (qa_cons qe_str qa_nil)) qe_int) (qa_cons (qe_op op_subG (qe_callB call_lenG rfl T.z_len bo_len (qa_cons (qe_var (i := 2)) qa_nil)) (qe_bm PySem.F.plainAttrs_str PySem.F.slot_str_rfind PySem.F.type_str_rfind (mt_strI mt_rfind) (qe_var (i := 2)) (qa_cons qe_str qa_nil))) qa_nil))))) qa_nil)))
      (qss_cons (qs_if (qt_cmp (op_eqG hr.units) (qe_var (i := 6)) qe_str) (qss_one (qs_set (i := 2) nd (qe_op op_addG (qe_op op_addG (qe_op op_addG (qe_var (i := 2)) qe_str) (qe_var (i := 7))) qe_str))) (qss_one (qs_set (i := 2) nd (qe_op op_addG (qe_var (i := 2)) (qe_var (i := 7))))))
      (qss_one (qs_set (i := 4) nd (qe_tup (qa_cons (qe_var (i := 6)) (qa_cons (qe_var (i := 7)) qa_nil))))))))))
      (qss_cons (qs_set (i := 2) nd (qe_op op_addG (qe_var (i := 2)) (qe_sub (hu_of hr) (qe_lst (qa_cons qe_str (qa_cons qe_str (qa_cons qe_str (qa_cons qe_str (qa_cons qe_str qa_nil)))))) (qf (ok_u_law_pick T) tk (hr.mono (by decide)) rfl rfl (qa_cons (qe_var (i := 1)) (qa_cons qe_int qa_nil)) (len_cons (len_cons len_nil))))))
      (qss_cons (qs_drop (qe_bm PySem.F.plainAttrs_list PySem.F.slot_list_append PySem.F.type_list_append mt_appendG (qe_var (i := 3)) (qa_cons (qe_tup (qa_cons qe_str (qa_cons qe_str (qa_cons (qe_op op_addG (qe_bm PySem.F.plainAttrs_str PySem.F.slot_str_count PySem.F.type_str_count (mt_strI mt_count) (qe_var (i := 2)) (qa_cons qe_str qa_nil)) qe_int) (qa_cons (qe_op op_subG (qe_callB call_lenG rfl T.z_len bo_len (qa_cons (qe_var (i := 2)) qa_nil)) (qe_bm PySem.F.plainAttrs_str PySem.F.slot_str_rfind PySem.F.type_str_rfind (mt_strI mt_rfind) (qe_var (i := 2)) (qa_cons qe_str qa_nil))) qa_nil))))) qa_nil)))
      (qss_cons (qs_set (i := 8) nd (qf (ok_tokens T) tk (hr.mono (by decide)) rfl rfl (qa_cons (qe_var (i := 2)) qa_nil) (len_cons len_nil)))
      (qss_cons (qs_if (qt_w (qw_or (qt_not (qt_val (qe_callB call_isiG rfl T.z_isinstance bo_isinstance (qa_cons (qe_var (i := 8)) (qa_cons (qe_ty rfl T.z_list bo_list) qa_nil))))) (qw_one' (qt_cmp (op_neG hr.units) (qe_var (i := 8)) (qe_var (i := 3)))))) (qss_one (qs_ret qe_bl)) qss_nil)
      (qss_one (qs_ret (qe_and (qe_cmp (op_eqG hr.units) (qe_gc rfl T.g_KEYWORDS) (qe_callTy call_toTupG rfl T.z_tuple bo_tuple (qa_cons (qf0 (ok_u_law_keywords T) tk (hr.mono (by decide)) rfl) qa_nil))) (qe_one (qe_cmp (op_eqG hr.units) (qf (ok_tokens T) tk (hr.mono (by decide)) rfl rfl (qa_cons qe_str qa_nil) (len_cons len_nil)) (qe_lst (qa_cons (qe_tup (qa_cons qe_str (qa_cons qe_str (qa_cons qe_int (qa_cons qe_int qa_nil))))) qa_nil))))))))))))))))
theorem ok_law (T : Txt K mg) : FnM P w K mg base 6 "law" P_law m_law := fnM_mk (N := N_law) T.d_law T.a_law sc_law (fun _ _ _ _ _ _ us hl => match us, hl with | [_], _ => rfl) (q_law T)

end

/-! the head: facts, the run -/
def dd_u_law_mix : He.DefD := ⟨("_law_mix", none), "_law_mix", "_law_mix", defArgs s_u_law_mix, defBody s_u_law_mix, defScope s_u_law_mix, [], []⟩
def dd_u_law_stream : He.DefD := ⟨("_law_stream", none), "_law_stream", "_law_stream", defArgs s_u_law_stream, defBody s_u_law_stream, defScope s_u_law_stream, [], []⟩
def dd_u_law_pick : He.DefD := ⟨("_law_pick", none), "_law_pick", "_law_pick", defArgs s_u_law_pick, defBody s_u_law_pick, defScope s_u_law_pick, [], []⟩
def dd_u_law_keywords : He.DefD := ⟨("_law_keywords", none), "_law_keywords", "_law_keywords", defArgs s_u_law_keywords, defBody s_u_law_keywords, defScope s_u_law_keywords, [], []⟩
def dd_u_law_word : He.DefD := ⟨("_law_word", none), "_law_word", "_law_word", defArgs s_u_law_word, defBody s_u_law_word, defScope s_u_law_word, [], []⟩
def dd_u_law_alone : He.DefD := ⟨("_law_alone", none), "_law_alone", "_law_alone", defArgs s_u_law_alone, defBody s_u_law_alone, defScope s_u_law_alone, [], []⟩
def dd_u_law_between : He.DefD := ⟨("_law_between", none), "_law_between", "_law_between", defArgs s_u_law_between, defBody s_u_law_between, defScope s_u_law_between, [], []⟩
def dd_u_is_allowed : He.DefD := ⟨("_is_allowed", none), "_is_allowed", "_is_allowed", defArgs s_u_is_allowed, defBody s_u_is_allowed, defScope s_u_is_allowed, [], []⟩
def dd_end_of_text : He.DefD := ⟨("end_of_text", none), "end_of_text", "end_of_text", defArgs s_end_of_text, defBody s_end_of_text, defScope s_end_of_text, [], []⟩
def dd_end_of_word : He.DefD := ⟨("end_of_word", none), "end_of_word", "end_of_word", defArgs s_end_of_word, defBody s_end_of_word, defScope s_end_of_word, [], []⟩
def dd_is_number : He.DefD := ⟨("is_number", none), "is_number", "is_number", defArgs s_is_number, defBody s_is_number, defScope s_is_number, [], []⟩
def dd_u_sign_at : He.DefD := ⟨("_sign_at", none), "_sign_at", "_sign_at", defArgs s_u_sign_at, defBody s_u_sign_at, defScope s_u_sign_at, [], []⟩
def dd_u_token_at : He.DefD := ⟨("_token_at", none), "_token_at", "_token_at", defArgs s_u_token_at, defBody s_u_token_at, defScope s_u_token_at, [], []⟩
def dd_u_tokens_of_row : He.DefD := ⟨("_tokens_of_row", none), "_tokens_of_row", "_tokens_of_row", defArgs s_u_tokens_of_row, defBody s_u_tokens_of_row, defScope s_u_tokens_of_row, [], []⟩
def dd_tokens : He.DefD := ⟨("tokens", none), "tokens", "tokens", defArgs s_tokens, defBody s_tokens, defScope s_tokens, [], []⟩
def dd_law : He.DefD := ⟨("law", none), "law", "law", defArgs s_law, defBody s_law, defScope s_law, [], []⟩
def ff : List He.DefD := [dd_u_law_mix, dd_u_law_stream, dd_u_law_pick, dd_u_law_keywords, dd_u_law_word, dd_u_law_alone, dd_u_law_between, dd_u_is_allowed, dd_end_of_text, dd_end_of_word, dd_is_number, dd_u_sign_at, dd_u_token_at, dd_u_tokens_of_row, dd_tokens, dd_law]
def fa : List He.Fa := [.glo "_law_mix", .glo "_law_stream", .glo "_law_pick", .glo "_law_keywords", .glo "_law_word", .glo "_law_alone", .glo "_law_between", .glo "_is_allowed", .glo "end_of_text", .glo "end_of_word", .glo "is_number", .glo "_sign_at", .glo "_token_at", .glo "_tokens_of_row", .glo "tokens", .glo "law", .free "range", .free "min", .free "len", .free "int", .free "enumerate", .free "all", .free "ord", .free "isinstance", .free "list", .free "tuple"]
def fc : List (Str × D) := [("KEYWORDS", c_KEYWORDS), ("SIGNS", c_SIGNS), ("LETTERS", c_LETTERS), ("DIGITS", c_DIGITS), ("LARGEST_NUMBER", c_LARGEST_NUMBER), ("LARGEST_NUMBER_LENGTH", c_LARGEST_NUMBER_LENGTH), ("LONGEST_TEXT", c_LONGEST_TEXT), ("PERCENT_SIGN", c_PERCENT_SIGN), ("BACKSLASH", c_BACKSLASH)]
/-- the names of the top but the law's -/
def loose : List Str := ["WatchError", "TextError", "BadCharacter", "BadNumber", "BadQuote", "KEYWORDS", "SIGNS", "LETTERS", "DIGITS", "LARGEST_NUMBER", "LARGEST_NUMBER_LENGTH", "LONGEST_TEXT", "PERCENT_SIGN", "BACKSLASH", "tokens", "_tokens_of_row", "_token_at", "_sign_at", "end_of_word", "is_number", "end_of_text", "_is_allowed", "_law_mix", "_law_stream", "_law_pick", "_law_keywords", "_law_word", "_law_alone", "_law_between"]
def lawAt : Nat := 32
theorem txt {w : World} {K : PySem.W.Frag} {h : Heap} {mg : Str → Option Value} (X : K.In h) (G : h.Ns mainGlobals mg) (c : He.SaysX fa ff [] [] (fun K => fc.all (constB K)) w h K) : Txt K mg := ⟨by obtain ⟨fd, F⟩ := c.t.d.def_ 0 (d := dd_u_law_mix) rfl; exact ⟨fd, F⟩,
  He.glo_ok X G (c.t.d.fact 0 (f := .glo "_law_mix") rfl),
  by obtain ⟨fd, F⟩ := c.t.d.def_ 1 (d := dd_u_law_stream) rfl; exact ⟨fd, F⟩,
  He.glo_ok X G (c.t.d.fact 1 (f := .glo "_law_stream") rfl),
  by obtain ⟨fd, F⟩ := c.t.d.def_ 2 (d := dd_u_law_pick) rfl; exact ⟨fd, F⟩,
  He.glo_ok X G (c.t.d.fact 2 (f := .glo "_law_pick") rfl),
  by obtain ⟨fd, F⟩ := c.t.d.def_ 3 (d := dd_u_law_keywords) rfl; exact ⟨fd, F⟩,
  He.glo_ok X G (c.t.d.fact 3 (f := .glo "_law_keywords") rfl),
  by obtain ⟨fd, F⟩ := c.t.d.def_ 4 (d := dd_u_law_word) rfl; exact ⟨fd, F⟩,
  He.glo_ok X G (c.t.d.fact 4 (f := .glo "_law_word") rfl),
  by obtain ⟨fd, F⟩ := c.t.d.def_ 5 (d := dd_u_law_alone) rfl; exact ⟨fd, F⟩,
  He.glo_ok X G (c.t.d.fact 5 (f := .glo "_law_alone") rfl),
  by obtain ⟨fd, F⟩ := c.t.d.def_ 6 (d := dd_u_law_between) rfl; exact ⟨fd, F⟩,
  He.glo_ok X G (c.t.d.fact 6 (f := .glo "_law_between") rfl),
  by obtain ⟨fd, F⟩ := c.t.d.def_ 7 (d := dd_u_is_allowed) rfl; exact ⟨fd, F⟩,
  He.glo_ok X G (c.t.d.fact 7 (f := .glo "_is_allowed") rfl),
  by obtain ⟨fd, F⟩ := c.t.d.def_ 8 (d := dd_end_of_text) rfl; exact ⟨fd, F⟩,
  He.glo_ok X G (c.t.d.fact 8 (f := .glo "end_of_text") rfl),
  by obtain ⟨fd, F⟩ := c.t.d.def_ 9 (d := dd_end_of_word) rfl; exact ⟨fd, F⟩,
  He.glo_ok X G (c.t.d.fact 9 (f := .glo "end_of_word") rfl),
  by obtain ⟨fd, F⟩ := c.t.d.def_ 10 (d := dd_is_number) rfl; exact ⟨fd, F⟩,
  He.glo_ok X G (c.t.d.fact 10 (f := .glo "is_number") rfl),
  by obtain ⟨fd, F⟩ := c.t.d.def_ 11 (d := dd_u_sign_at) rfl; exact ⟨fd, F⟩,
  He.glo_ok X G (c.t.d.fact 11 (f := .glo "_sign_at") rfl),
  by obtain ⟨fd, F⟩ := c.t.d.def_ 12 (d := dd_u_token_at) rfl; exact ⟨fd, F⟩,
  He.glo_ok X G (c.t.d.fact 12 (f := .glo "_token_at") rfl),
  by obtain ⟨fd, F⟩ := c.t.d.def_ 13 (d := dd_u_tokens_of_row) rfl; exact ⟨fd, F⟩,
  He.glo_ok X G (c.t.d.fact 13 (f := .glo "_tokens_of_row") rfl),
  by obtain ⟨fd, F⟩ := c.t.d.def_ 14 (d := dd_tokens) rfl; exact ⟨fd, F⟩,
  He.glo_ok X G (c.t.d.fact 14 (f := .glo "tokens") rfl),
  by obtain ⟨fd, F⟩ := c.t.d.def_ 15 (d := dd_law) rfl; exact ⟨fd, F⟩,
  He.glo_ok X G (c.t.d.fact 15 (f := .glo "law") rfl),
  constB_ok X G (q := ("KEYWORDS", c_KEYWORDS)) (List.all_eq_true.mp c.more ("KEYWORDS", c_KEYWORDS) (by simp [fc])),
  constB_ok X G (q := ("SIGNS", c_SIGNS)) (List.all_eq_true.mp c.more ("SIGNS", c_SIGNS) (by simp [fc])),
  constB_ok X G (q := ("LETTERS", c_LETTERS)) (List.all_eq_true.mp c.more ("LETTERS", c_LETTERS) (by simp [fc])),
  constB_ok X G (q := ("DIGITS", c_DIGITS)) (List.all_eq_true.mp c.more ("DIGITS", c_DIGITS) (by simp [fc])),
  constB_ok X G (q := ("LARGEST_NUMBER", c_LARGEST_NUMBER)) (List.all_eq_true.mp c.more ("LARGEST_NUMBER", c_LARGEST_NUMBER) (by simp [fc])),
  constB_ok X G (q := ("LARGEST_NUMBER_LENGTH", c_LARGEST_NUMBER_LENGTH)) (List.all_eq_true.mp c.more ("LARGEST_NUMBER_LENGTH", c_LARGEST_NUMBER_LENGTH) (by simp [fc])),
  constB_ok X G (q := ("LONGEST_TEXT", c_LONGEST_TEXT)) (List.all_eq_true.mp c.more ("LONGEST_TEXT", c_LONGEST_TEXT) (by simp [fc])),
  constB_ok X G (q := ("PERCENT_SIGN", c_PERCENT_SIGN)) (List.all_eq_true.mp c.more ("PERCENT_SIGN", c_PERCENT_SIGN) (by simp [fc])),
  constB_ok X G (q := ("BACKSLASH", c_BACKSLASH)) (List.all_eq_true.mp c.more ("BACKSLASH", c_BACKSLASH) (by simp [fc])),
  He.free_ok X G (c.t.d.fact 16 (f := .free "range") rfl),
  He.free_ok X G (c.t.d.fact 17 (f := .free "min") rfl),
  He.free_ok X G (c.t.d.fact 18 (f := .free "len") rfl),
  He.free_ok X G (c.t.d.fact 19 (f := .free "int") rfl),
  He.free_ok X G (c.t.d.fact 20 (f := .free "enumerate") rfl),
  He.free_ok X G (c.t.d.fact 21 (f := .free "all") rfl),
  He.free_ok X G (c.t.d.fact 22 (f := .free "ord") rfl),
  He.free_ok X G (c.t.d.fact 23 (f := .free "isinstance") rfl),
  He.free_ok X G (c.t.d.fact 24 (f := .free "list") rfl),
  He.free_ok X G (c.t.d.fact 25 (f := .free "tuple") rfl)⟩
def lawLev : Nat := 6
end K00
end
section
set_option Elab.async false
set_option linter.all false
set_option maxRecDepth 100000
set_option maxHeartbeats 0
namespace K00
open PySem PySem.Spec PyProof.Rows L2 PM
abbrev R : PySem.W.OpenRow := PySem.W.OpenLaw.row PySem.Challenge.rw_sheetwatch_k00_tokens_of_rules
abbrev hk : PySem.W.Hook := He.hookX 4 fa ff [] [] (fun K => fc.all (constB K))
def ob (s : PySem.W.SharedT) : He.AlX := He.obsX 4 fa ff [] [] (fun K => fc.all (constB K)) (HandSHeadRun.getT s)
theorem ob_eq (s : PySem.W.SharedT) : ob s = hk.obs s.abs := He.obsX_eq (HandSHeadRun.getT_eq s)
theorem run (w : World) : HandSHeadRun.RunEq R (PySem.W.view R.prog [lawAt]) hk ob 4000 loose w := by
  intro os
  kernel_rfl
end K00
end
section
set_option Elab.async false
set_option linter.all false
set_option maxRecDepth 100000
set_option maxHeartbeats 0
open PySem PySem.W PySem.Calls PyProof.Rows
theorem K00.fin (main : ∀ ns : List Int, ns.length ≤ 63 → (∀ z ∈ ns, Builtin.Int.intBits z ≤ 1048576) → ∃ h', K00.m_law [.ref 0] [.rdl (ns.map PM.D.int)] = .ok (.bl true) h') : PySem.Challenge.rw_sheetwatch_k00_tokens_of_rules.Holds := by
  w_on; o_law
  refine HandSHeadRun.head_any (r := K00.R) (q := view K00.R.prog [K00.lawAt]) (H := K00.hk) (ob := K00.ob) (M := 4000) (loose := K00.loose) (d := HandSHeadRun.topDef K00.R.prog K00.lawAt) (kwd := []) K00.ob_eq
    (by kernel_rfl) (fun s => by kernel_rfl) K00.run (by kernel_rfl) (by kernel_rfl) (by kernel_rfl) (by rfl) (by first | assumption | decide +kernel) (by decide +kernel) ⟨rfl, rfl, rfl, rfl, rfl, by decide +kernel⟩ ?hw ?hc
  case hw => w_witness2
  case hc =>
    refine PM.walk_pm (l := PySem.Challenge.rw_sheetwatch_k00_tokens_of_rules) (k := K00.lawLev) (m := K00.m_law) rfl (by kernel_rfl) ⟨rfl, by decide, by decide⟩ ?F main
    intro w mg fa h Y G hmg0
    obtain ⟨K, KX, c⟩ := Y
    have hmg : mg ("law" : PySem.Str) = some (.ref fa) := by
      have e : (HandSHeadRun.topDef K00.R.prog K00.lawAt).name = ("law" : PySem.Str) := by kernel_rfl
      rw [← e]
      exact hmg0
    have T := K00.txt KX G c
    obtain ⟨fd, F⟩ := T.d_law
    have e := hmg.symm.trans T.a_law
    cases e
    exact ⟨K, fd, KX, fun s v => L2.FunD.bindsA (ps := ["script"]) F (fun _ _ _ _ _ _ us hl => match us, hl with | [_], _ => rfl) s [v] rfl, fun base => PM.fnOk_mk (N := K00.N_law) F K00.sc_law (K00.q_law T)⟩
end
theorem PySem.Challenge.cw_sheetwatch_k00_tokens_of_rules_holds : PySem.Challenge.rw_sheetwatch_k00_tokens_of_rules.Holds := by
  exact K00.fin fun ns h _ => K00.main ns h
