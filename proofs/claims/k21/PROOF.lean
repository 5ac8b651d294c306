import PyProof.Rows.All
import HandS.ForMost
import HandS.ForExc
import HandS.Iter
import HandS.CallSlots
import KE.GoesEnumKw
import PyProof.Rows.CallKwBuiltin
import HandS.StrMore
import HandS.IsInst
import HandS.Defaults
import HandS.Head0
import HandS.Head1
import HandS.Head2
import HandS.HeadEnd
import HandS.HeadHook1
import HandS.HeadHook2
import HandS.HeadHook3
import HandS.HeadHook4
import HandS.HeadWalk
import HandS.EndBits
import HandS.Star
import HandS.Zip
import HandS.Deep
import HandS.Strs
import PyProof.DictMoreH
import HandS.SetKeys
import HandS.DictTup
import HandS.DictComp
import KE.SortKeyHeap
import KE.KDictSum
import KE.KDictCopyH
import HandS.More
import HandS.SortKw
import HandS.Rev
import HandS.TupAny
import PySem.Challenge.RW_sheetwatch_k21_groups
import Lean
section
set_option Elab.async false
set_option linter.all false
set_option maxRecDepth 100000
namespace PM
open PySem PySem.Spec PyProof.Rows L2

/-- a value of the plain layer: tuples stand in line, lists and dicts and instances by their place -/
inductive D where
  | non | bl (b : Bool) | int (i : Int) | str (x : Str) | tup (xs : List D) | stp (xs : List D) | ref (i : Nat) | fn (x : Str) | ty (n : String)

inductive Ob where
  | lst (xs : List D) | dic (kvs : List (Key × D)) | rdl (xs : List D) | ins (c : Str) (fs : List (Str × D))
  /-- a dict with tuple keys; a dict while it is walked -/
  | dit (kvs : List (List Key × D)) | rdd (kvs : List (Key × D)) | rdt (kvs : List (List Key × D))
def mu : Ob → Bool
  | .rdl _ => false
  | .rdd _ => false
  | .rdt _ => false
  | _ => true
/-- stands alone at its address -/
def uq : Ob → Bool
  | .rdl _ => false
  | _ => true
theorem mu_uq {o : Ob} (m : mu o = true) : uq o = true := by cases o <;> first | rfl | exact m
abbrev HP := List Ob
abbrev SD := List (Option D)

/-! ### extension of the places, keeping of the tuples -/
def Ext (r r' : List Addr) : Prop := ∃ l, r' = r ++ l
theorem Ext.refl (r : List Addr) : Ext r r := ⟨[], by simp⟩
theorem Ext.trans {a b c : List Addr} (h : Ext a b) (k : Ext b c) : Ext a c := by
  obtain ⟨l, rfl⟩ := h
  obtain ⟨m, rfl⟩ := k
  exact ⟨l ++ m, by simp⟩
theorem Ext.get {r r' : List Addr} (h : Ext r r') {i : Nat} {a : Addr} (e : r[i]? = some a) : r'[i]? = some a := by
  obtain ⟨l, rfl⟩ := h
  have hi : i < r.length := by
    rcases Nat.lt_or_ge i r.length with h | h
    · exact h
    · rw [List.getElem?_eq_none h] at e; cases e
  rw [List.getElem?_append_left hi]; exact e
theorem Ext.one (r : List Addr) (p : Addr) : Ext r (r ++ [p]) := ⟨[p], rfl⟩

structure Keep (H H' : Hp) : Prop where
  tup : ∀ a xs, H a = some (.tup xs) → H' a = some (.tup xs)
  frz : ∀ a o u, H a = some (.frz o u) → H' a = some (.frz o u)
  xd : ∀ a fs, H a = some (.xd fs) → H' a = some (.xd fs)
theorem Keep.refl (H : Hp) : Keep H H := ⟨fun _ _ e => e, fun _ _ _ e => e, fun _ _ e => e⟩
theorem Keep.trans {H H1 H2 : Hp} (a : Keep H H1) (b : Keep H1 H2) : Keep H H2 := ⟨fun x xs e => b.tup x xs (a.tup x xs e), fun x o u e => b.frz x o u (a.frz x o u e), fun x fs e => b.xd x fs (a.xd x fs e)⟩
theorem Keep.new {H : Hp} {p : Addr} {o : HO} (h : H p = none) : Keep H (upd H p o) :=
  ⟨fun a xs e => by rw [upd_ne (ne_of_none e h)]; exact e, fun a ob u e => by rw [upd_ne (ne_of_none e h)]; exact e, fun a fs e => by rw [upd_ne (ne_of_none e h)]; exact e⟩
theorem Keep.mut {H : Hp} {p : Addr} {o u : HO} (h : H p = some u) (ht : ∀ xs, u ≠ .tup xs) (hf : ∀ ob v, u ≠ .frz ob v) (hx : ∀ fs, u ≠ .xd fs) : Keep H (upd H p o) :=
  ⟨fun a xs e => by rw [upd_ne (ne_of e h (fun z => ht xs z.symm))]; exact e, fun a ob v e => by rw [upd_ne (ne_of e h (fun z => hf ob v z.symm))]; exact e, fun a fs e => by rw [upd_ne (ne_of e h (fun z => hx fs z.symm))]; exact e⟩
theorem Keep.sqT {K : PySem.W.Frag} {H H' : Hp} (k : Keep H H') {a : Addr} {xs : List V} (h : SqT K H a xs) : SqT K H' a xs := by
  rcases h with (h | ⟨o, h⟩) | h
  · exact .inl (.inl (k.tup a xs h))
  · exact .inl (.inr ⟨o, k.frz a o _ h⟩)
  · exact .inr h

/-- a tuple that is known as an object, without a dict of its own: read of methods, too -/
def FxT (K : PySem.W.Frag) (H : Hp) (a : Addr) (vs : List V) : Prop :=
  (∃ o, H a = some (.frz o (.tup vs)) ∧ o.dict = none) ∨ ∃ (o : Obj) (its : Array Value) (n : Nat), K.lookup a = some o ∧ o.cls = .type "tuple" ∧ o.data = .seq its n ∧ its.size ≤ sizeLine ∧ Vals vs its.toList ∧ o.dict = none
theorem FxT.sq {K : PySem.W.Frag} {H : Hp} {a : Addr} {vs : List V} (q : FxT K H a vs) : SqT K H a vs := by
  rcases q with ⟨o, e, _⟩ | ⟨o, its, n, e1, e2, e3, e4, e5, _⟩
  · exact .inl (.inr ⟨o, e⟩)
  · exact .inr ⟨o, its, n, e1, e2, e3, e4, e5⟩
theorem FxT.keep {K : PySem.W.Frag} {H H' : Hp} (k : Keep H H') {a : Addr} {vs : List V} (q : FxT K H a vs) : FxT K H' a vs := by
  rcases q with ⟨o, e, d⟩ | q
  · exact .inl ⟨o, k.frz _ _ _ e, d⟩
  · exact .inr q
/-! ### what stands for what -/
mutual
inductive RelD (K : PySem.W.Frag) (mg : Str → Option Value) (r : List Addr) (H : Hp) : D → V → Prop
  | non : RelD K mg r H .non .non
  | bl (b : Bool) : RelD K mg r H (.bl b) (.bl b)
  | int (i : Int) : RelD K mg r H (.int i) (.int i)
  | str (x : Str) : RelD K mg r H (.str x) (.str x)
  | tup {xs : List D} {a : Addr} {vs : List V} : H a = some (.tup vs) → RelDs K mg r H xs vs → RelD K mg r H (.tup xs) (.ref a)
  | stp {xs : List D} {a : Addr} {vs : List V} : FxT K H a vs → RelDs K mg r H xs vs → RelD K mg r H (.stp xs) (.ref a)
  | ref {i : Nat} {a : Addr} : r[i]? = some a → RelD K mg r H (.ref i) (.ref a)
  | fn {x : Str} {a : Addr} : mg x = some (.ref a) → RelD K mg r H (.fn x) (.ref a)
  | ty (n : String) : RelD K mg r H (.ty n) (.ty n)
inductive RelDs (K : PySem.W.Frag) (mg : Str → Option Value) (r : List Addr) (H : Hp) : List D → List V → Prop
  | nil : RelDs K mg r H [] []
  | cons {x : D} {v : V} {xs : List D} {vs : List V} : RelD K mg r H x v → RelDs K mg r H xs vs → RelDs K mg r H (x :: xs) (v :: vs)
end

section
variable {K : PySem.W.Frag} {mg : Str → Option Value} {r r' : List Addr} {H H' : Hp}
mutual
theorem RelD.mono (e : Ext r r') (k : Keep H H') {d : D} {v : V} (h : RelD K mg r H d v) : RelD K mg r' H' d v := match h with
  | .non => .non
  | .bl b => .bl b
  | .int i => .int i
  | .str x => .str x
  | .tup s t => .tup (k.tup _ _ s) (RelDs.mono e k t)
  | .stp s t => .stp (s.keep k) (RelDs.mono e k t)
  | .ref q => .ref (e.get q)
  | .fn q => .fn q
  | .ty n => .ty n
theorem RelDs.mono (e : Ext r r') (k : Keep H H') {d : List D} {v : List V} (h : RelDs K mg r H d v) : RelDs K mg r' H' d v := match h with
  | .nil => .nil
  | .cons a b => .cons (RelD.mono e k a) (RelDs.mono e k b)
end
theorem RelDs.length : ∀ {ds : List D} {vs : List V}, RelDs K mg r H ds vs → ds.length = vs.length
  | _, _, .nil => rfl
  | _, _, .cons _ t => by simp [RelDs.length t]
theorem RelDs.get : ∀ {ds : List D} {vs : List V} {i : Nat} {d : D}, RelDs K mg r H ds vs → ds[i]? = some d → ∃ v, vs[i]? = some v ∧ RelD K mg r H d v
  | _, _, _, _, .nil, h => by simp at h
  | _, _, 0, _, .cons a _, h => by simp at h; subst h; exact ⟨_, rfl, a⟩
  | _, _, i + 1, d, .cons _ t, h => by
    obtain ⟨v, e, q⟩ := RelDs.get (i := i) (d := d) t (by simpa using h)
    exact ⟨v, by simpa using e, q⟩
theorem RelDs.getV : ∀ {ds : List D} {vs : List V} {i : Nat} {v : V}, RelDs K mg r H ds vs → vs[i]? = some v → ∃ d, ds[i]? = some d ∧ RelD K mg r H d v
  | _, _, _, _, .nil, h => by simp at h
  | _, _, 0, _, .cons a _, h => by simp at h; subst h; exact ⟨_, rfl, a⟩
  | _, _, i + 1, v, .cons _ t, h => by
    obtain ⟨d, e, q⟩ := RelDs.getV (i := i) (v := v) t (by simpa using h)
    exact ⟨d, by simpa using e, q⟩
theorem RelDs.append : ∀ {ds es : List D} {vs us : List V}, RelDs K mg r H ds vs → RelDs K mg r H es us → RelDs K mg r H (ds ++ es) (vs ++ us)
  | _, _, _, _, .nil, h => h
  | _, _, _, _, .cons a t, h => .cons a (RelDs.append t h)
theorem RelDs.one {d : D} {v : V} (h : RelD K mg r H d v) : RelDs K mg r H [d] [v] := .cons h .nil
theorem RelDs.set : ∀ {ds : List D} {vs : List V} (i : Nat) {d : D} {v : V}, RelDs K mg r H ds vs → RelD K mg r H d v → RelDs K mg r H (ds.set i d) (vs.set i v)
  | _, _, _, _, _, .nil, _ => .nil
  | _, _, 0, _, _, .cons _ t, h => .cons h t
  | _, _, i + 1, _, _, .cons a t, h => .cons a (RelDs.set i t h)
theorem RelDs.strs : ∀ ys : List Str, RelDs K mg r H (ys.map D.str) (ys.map V.str)
  | [] => .nil
  | y :: ys => .cons (.str y) (RelDs.strs ys)
theorem RelDs.ints : ∀ ys : List Int, RelDs K mg r H (ys.map D.int) (ys.map V.int)
  | [] => .nil
  | y :: ys => .cons (.int y) (RelDs.ints ys)
/-- pairs: keys alike, values related -/
abbrev RelP {κ : Type} (K : PySem.W.Frag) (mg : Str → Option Value) (r : List Addr) (H : Hp) : List (κ × D) → List (κ × V) → Prop := Paired fun p q => p.1 = q.1 ∧ RelD K mg r H p.2 q.2
theorem RelP.mono {κ : Type} (e : Ext r r') (k : Keep H H') : ∀ {ds : List (κ × D)} {vs : List (κ × V)}, RelP K mg r H ds vs → RelP K mg r' H' ds vs
  | _, _, .nil => .nil
  | _, _, .cons a t => .cons ⟨a.1, a.2.mono e k⟩ (RelP.mono e k t)

def RepO (K : PySem.W.Frag) (mg : Str → Option Value) (r : List Addr) (H : Hp) (o : Ob) (a : Addr) : Prop := match o with
  | .lst xs => ∃ vs, H a = some (.lst vs) ∧ RelDs K mg r H xs vs
  | .dic kvs => ∃ vs, H a = some (.dK vs) ∧ RelP K mg r H kvs vs
  | .rdl xs => ∃ vs, ((∃ ob, H a = some (.frz ob (.lst vs))) ∨ SqL K (fun _ => none) a vs) ∧ RelDs K mg r H xs vs
  | .ins c fs => ∃ C dx vs, mg c = some (.ref C) ∧ H a = some (.ins C dx vs) ∧ RelP K mg r H fs vs
  | .dit kvs => ∃ vs, H a = some (.dT vs) ∧ RelP K mg r H kvs vs
  | .rdd kvs => ∃ od vs, H a = some (.frz od (.dK vs)) ∧ RelP K mg r H kvs vs
  | .rdt kvs => ∃ od vs, H a = some (.frz od (.dT vs)) ∧ RelP K mg r H kvs vs

structure Rep (K : PySem.W.Frag) (mg : Str → Option Value) (r : List Addr) (h : HP) (H : Hp) : Prop where
  len : r.length = h.length
  obs : ∀ (i : Nat) (o : Ob) (a : Addr), h[i]? = some o → r[i]? = some a → RepO K mg r H o a
  inj : ∀ (i j : Nat) (a : Addr) (oi oj : Ob), h[i]? = some oi → h[j]? = some oj → uq oi = true → uq oj = true → r[i]? = some a → r[j]? = some a → i = j

theorem RepO.mono {o : Ob} {a : Addr} (e : Ext r r') (k : Keep H H') (s : mu o = true → H' a = H a) (h : RepO K mg r H o a) : RepO K mg r' H' o a := by
  cases o with
  | lst xs => obtain ⟨vs, q, t⟩ := h; exact ⟨vs, by rw [s rfl]; exact q, t.mono e k⟩
  | dic kvs => obtain ⟨vs, q, t⟩ := h; exact ⟨vs, by rw [s rfl]; exact q, RelP.mono e k t⟩
  | rdl xs =>
    obtain ⟨vs, q, t⟩ := h
    refine ⟨vs, ?_, t.mono e k⟩
    rcases q with ⟨ob, q⟩ | q
    · exact .inl ⟨ob, k.frz a ob _ q⟩
    · exact .inr q
  | ins c fs => obtain ⟨C, dx, vs, q1, q, t⟩ := h; exact ⟨C, dx, vs, q1, by rw [s rfl]; exact q, RelP.mono e k t⟩
  | dit kvs => obtain ⟨vs, q, t⟩ := h; exact ⟨vs, by rw [s rfl]; exact q, RelP.mono e k t⟩
  | rdd kvs => obtain ⟨od, vs, q, t⟩ := h; exact ⟨od, vs, k.frz a od _ q, RelP.mono e k t⟩
  | rdt kvs => obtain ⟨od, vs, q, t⟩ := h; exact ⟨od, vs, k.frz a od _ q, RelP.mono e k t⟩
/-- what a changing object is at its address -/
theorem RepO.some {o : Ob} {a : Addr} (m : mu o = true) (h : RepO K mg r H o a) : ∃ u, H a = some u ∧ (∀ xs, u ≠ .tup xs) ∧ (∀ ob v, u ≠ .frz ob v) ∧ (∀ fs, u ≠ .xd fs) := by
  cases o with
  | lst xs => obtain ⟨vs, q, t⟩ := h; exact ⟨_, q, ⟨fun _ z => (by cases z), fun _ _ z => (by cases z), fun _ z => (by cases z)⟩⟩
  | dic kvs => obtain ⟨vs, q, t⟩ := h; exact ⟨_, q, ⟨fun _ z => (by cases z), fun _ _ z => (by cases z), fun _ z => (by cases z)⟩⟩
  | rdl xs => cases m
  | ins c fs => obtain ⟨C, dx, vs, q1, q, t⟩ := h; exact ⟨_, q, ⟨fun _ z => (by cases z), fun _ _ z => (by cases z), fun _ z => (by cases z)⟩⟩
  | dit kvs => obtain ⟨vs, q, t⟩ := h; exact ⟨_, q, ⟨fun _ z => (by cases z), fun _ _ z => (by cases z), fun _ z => (by cases z)⟩⟩
  | rdd kvs => cases m
  | rdt kvs => cases m

/-- what stands alone stands somewhere -/
theorem RepO.ex {o : Ob} {a : Addr} (m : uq o = true) (h : RepO K mg r H o a) : ∃ u, H a = Option.some u := by
  cases o with
  | lst xs => obtain ⟨vs, q, t⟩ := h; exact ⟨_, q⟩
  | dic kvs => obtain ⟨vs, q, t⟩ := h; exact ⟨_, q⟩
  | rdl xs => cases m
  | ins c fs => obtain ⟨C, dx, vs, q1, q, t⟩ := h; exact ⟨_, q⟩
  | dit kvs => obtain ⟨vs, q, t⟩ := h; exact ⟨_, q⟩
  | rdd kvs => obtain ⟨od, vs, q, t⟩ := h; exact ⟨_, q⟩
  | rdt kvs => obtain ⟨od, vs, q, t⟩ := h; exact ⟨_, q⟩
variable {h : HP} {o : Ob} {p a : Addr}
theorem Rep.at (R : Rep K mg r h H) {i : Nat} (e : h[i]? = some o) : ∃ a, r[i]? = some a ∧ RepO K mg r H o a := by
  have hi : i < h.length := by
    rcases Nat.lt_or_ge i h.length with q | q
    · exact q
    · rw [List.getElem?_eq_none q] at e; cases e
  have hr : i < r.length := by rw [R.len]; exact hi
  exact ⟨r[i], List.getElem?_eq_getElem hr, R.obs i o _ e (List.getElem?_eq_getElem hr)⟩
theorem Rep.ob (R : Rep K mg r h H) {i : Nat} (e : r[i]? = some a) : ∃ o, h[i]? = some o ∧ RepO K mg r H o a := by
  have hi : i < r.length := by
    rcases Nat.lt_or_ge i r.length with q | q
    · exact q
    · rw [List.getElem?_eq_none q] at e; cases e
  have hr : i < h.length := by rw [← R.len]; exact hi
  exact ⟨h[i], List.getElem?_eq_getElem hr, R.obs i _ _ (List.getElem?_eq_getElem hr) e⟩
/-- a new object that the plain heap does not tell of -/
theorem Rep.fresh (R : Rep K mg r h H) {u : HO} (hp : H p = none) : Rep K mg r h (upd H p u) := by
  refine ⟨R.len, fun i o a e1 e2 => (R.obs i o a e1 e2).mono (Ext.refl r) (Keep.new hp) fun m => ?_, R.inj⟩
  obtain ⟨w, q, _⟩ := (R.obs i o a e1 e2).some m
  rw [upd_ne (ne_of_none q hp)]
theorem get_snoc {α : Type} {l : List α} {x y : α} {i : Nat} (h : (l ++ [x])[i]? = some y) : (i < l.length ∧ l[i]? = some y) ∨ (i = l.length ∧ x = y) := by
  rcases Nat.lt_trichotomy i l.length with q | q | q
  · rw [List.getElem?_append_left q] at h; exact .inl ⟨q, h⟩
  · subst q; rw [List.getElem?_append_right (Nat.le_refl _)] at h; simp at h; exact .inr ⟨rfl, h⟩
  · rw [List.getElem?_eq_none (by simp; omega)] at h; cases h
theorem Rep.new (R : Rep K mg r h H) {u : HO} (hp : H p = none) (q : RepO K mg (r ++ [p]) (upd H p u) o p) : Rep K mg (r ++ [p]) (h ++ [o]) (upd H p u) := by
  have old : ∀ {i : Nat} {a : Addr} {o' : Ob}, h[i]? = some o' → r[i]? = some a → uq o' = true → a ≠ p := fun e1 e2 m => by
    obtain ⟨w, q⟩ := (R.obs _ _ _ e1 e2).ex m
    exact ne_of_none q hp
  refine ⟨by simp [R.len], fun i o' a e1 e2 => ?_, fun i j a oi oj e1 e2 m1 m2 e3 e4 => ?_⟩
  · rcases get_snoc e1 with ⟨l1, e1⟩ | ⟨l1, e1⟩
    · rcases get_snoc e2 with ⟨l2, e2⟩ | ⟨l2, e2⟩
      · refine (R.obs i o' a e1 e2).mono (Ext.one r p) (Keep.new hp) fun m => ?_
        rw [upd_ne (old e1 e2 (mu_uq m))]
      · rw [R.len] at l2; omega
    · rcases get_snoc e2 with ⟨l2, e2⟩ | ⟨l2, e2⟩
      · rw [R.len] at l2; omega
      · subst e1 e2; exact q
  · rcases get_snoc e1 with ⟨l1, e1⟩ | ⟨l1, e1⟩
    · rcases get_snoc e3 with ⟨_, e3⟩ | ⟨l3, _⟩
      · rcases get_snoc e2 with ⟨l2, e2⟩ | ⟨l2, e2⟩
        · rcases get_snoc e4 with ⟨_, e4⟩ | ⟨l4, _⟩
          · exact R.inj i j a oi oj e1 e2 m1 m2 e3 e4
          · rw [R.len] at l4; omega
        · rcases get_snoc e4 with ⟨l4, _⟩ | ⟨_, e4⟩
          · rw [R.len] at l4; omega
          · exact absurd e4.symm (old e1 e3 m1)
      · rw [R.len] at l3; omega
    · rcases get_snoc e3 with ⟨l3, _⟩ | ⟨_, e3⟩
      · rw [R.len] at l3; omega
      · rcases get_snoc e2 with ⟨l2, e2⟩ | ⟨l2, e2⟩
        · rcases get_snoc e4 with ⟨_, e4⟩ | ⟨l4, _⟩
          · exact absurd e3.symm (old e2 e4 m2)
          · rw [R.len] at l4; omega
        · omega
theorem get_set {α : Type} {l : List α} {x y : α} {i j : Nat} (h : (l.set i x)[j]? = some y) : (i = j ∧ x = y) ∨ (i ≠ j ∧ l[j]? = some y) := by
  by_cases e : i = j
  · subst e
    by_cases hi : i < l.length
    · rw [List.getElem?_set_self hi] at h; exact .inl ⟨rfl, Option.some.inj h⟩
    · rw [List.getElem?_eq_none (by simpa using hi)] at h; cases h
  · rw [List.getElem?_set_ne e] at h; exact .inr ⟨e, h⟩
theorem Rep.set (R : Rep K mg r h H) {u : HO} {o' : Ob} {i : Nat} (e : h[i]? = some o) (m : mu o = true) (m' : mu o' = true) (ea : r[i]? = some a) (q : Keep H (upd H a u) → RepO K mg r (upd H a u) o' a) : Rep K mg r (h.set i o') (upd H a u) ∧ Keep H (upd H a u) := by
  obtain ⟨w, q1, q2, q3, q4⟩ := (R.obs i o a e ea).some m
  have k : Keep H (upd H a u) := Keep.mut q1 q2 q3 q4
  refine ⟨⟨by simp [R.len], fun j o2 b e1 e2 => ?_, fun j l b oj ol e1 e2 m1 m2 e3 e4 => ?_⟩, k⟩
  · rcases get_set e1 with ⟨e1, e5⟩ | ⟨n, e1⟩
    · subst e1 e5
      rw [ea] at e2; cases e2
      exact q k
    · refine (R.obs j o2 b e1 e2).mono (Ext.refl r) k fun m2 => ?_
      have : b ≠ a := fun z => by subst z; exact n (R.inj i j b o o2 e e1 (mu_uq m) (mu_uq m2) ea e2)
      rw [upd_ne this]
  · have f : ∀ {j : Nat} {oj : Ob}, (h.set i o')[j]? = some oj → uq oj = true → ∃ o2, h[j]? = some o2 ∧ uq o2 = true := fun {j oj} e1 m1 => by
      rcases get_set e1 with ⟨e1, _⟩ | ⟨_, e1⟩
      · subst e1; exact ⟨o, e, mu_uq m⟩
      · exact ⟨oj, e1, m1⟩
    obtain ⟨a1, b1, c1⟩ := f e1 m1
    obtain ⟨a2, b2, c2⟩ := f e2 m2
    exact R.inj j l b a1 a2 b1 b2 c1 c2 e3 e4
end
end PM
end
section
set_option Elab.async false
set_option linter.all false
set_option maxRecDepth 100000
set_option maxHeartbeats 1000000
namespace PM
open PySem PySem.Spec PyProof.Rows L2

/-! ### results -/
inductive R (α : Type) where
  | ok (a : α) (h : HP) | exc (c : Str) (fs : List (Str × D)) (h : HP) | bad
def R.bind {α β : Type} (x : R α) (k : α → HP → R β) : R β := match x with
  | .ok a h => k a h
  | .exc c fs h => .exc c fs h
  | .bad => .bad
inductive RS where
  | nx (s : SD) (h : HP) | rt (d : D) (h : HP) | bk (s : SD) (h : HP) | ct (s : SD) (h : HP) | exc (s : SD) (c : Str) (fs : List (Str × D)) (h : HP) | bad
def RS.seq (x : RS) (k : SD → HP → RS) : RS := match x with
  | .nx s h => k s h
  | .rt d h => .rt d h
  | .bk s h => .bk s h
  | .ct s h => .ct s h
  | .exc s c fs h => .exc s c fs h
  | .bad => .bad
def R.toS {α : Type} (x : R α) (s : SD) (k : α → HP → RS) : RS := match x with
  | .ok a h => k a h
  | .exc c fs h => .exc s c fs h
  | .bad => .bad
def ofO (x : Option (D × HP)) : R D := match x with
  | some (d, h) => .ok d h
  | none => .bad
abbrev MS := SD → HP → RS
abbrev ME := SD → HP → R D
abbrev MA := SD → HP → R (List D)
abbrev MT := SD → HP → R Bool

structure RR (α β : Type) where
  rel : PySem.W.Frag → (Str → Option Value) → List Addr → Hp → α → β → Prop
  mono : ∀ {K : PySem.W.Frag} {mg : Str → Option Value} {r r' : List Addr} {H H' : Hp} {a : α} {b : β}, Ext r r' → Keep H H' → rel K mg r H a b → rel K mg r' H' a b
def rD : RR D V := ⟨RelD, fun e k h => h.mono e k⟩
def rDs : RR (List D) (List V) := ⟨RelDs, fun e k h => h.mono e k⟩
def rEqq (α : Type) : RR α α := ⟨fun _ _ _ _ a b => a = b, fun _ _ h => h⟩
abbrev rB : RR Bool Bool := rEqq Bool
abbrev rOI : RR (Option Int) (Option Int) := rEqq (Option Int)

structure RelSt (K : PySem.W.Frag) (mg : Str → Option Value) (r : List Addr) (H : Hp) (s : SD) (σ : L2.St) : Prop where
  len : s.length = σ.length
  at' : ∀ (i : Nat) (d : D), s[i]? = some (some d) → ∃ v, σ[i]? = some (some v) ∧ RelD K mg r H d v
/-- an error: its class by name, its fields -/
def XRel (K : PySem.W.Frag) (mg : Str → Option Value) (r : List Addr) (H : Hp) (c : Str) (fs : List (Str × D)) (cls : Value) (dd : Option Addr) : Prop :=
  ∃ C, mg c = some (.ref C) ∧ cls = .ref C ∧ ∃ d vs, dd = some d ∧ H d = some (.xd vs) ∧ RelP K mg r H fs vs

section
variable {K : PySem.W.Frag} {mg : Str → Option Value} {r r' r1 : List Addr} {H H' H1 : Hp} {h : HP} {s : SD} {σ : L2.St} {α β γ δ : Type} {W : WX}
theorem RelSt.mono (e : Ext r r') (k : Keep H H') (h : RelSt K mg r H s σ) : RelSt K mg r' H' s σ := ⟨h.len, fun i d q => let ⟨v, a, b⟩ := h.at' i d q; ⟨v, a, b.mono e k⟩⟩
theorem RelSt.set (h : RelSt K mg r H s σ) (i : Nat) {d : D} {v : V} (q : RelD K mg r H d v) : RelSt K mg r H (s.set i (some d)) (σ.set i (some v)) := by
  refine ⟨by simp [h.len], fun j d' e => ?_⟩
  rcases get_set e with ⟨e1, e2⟩ | ⟨n, e⟩
  · subst e1
    have hi : i < σ.length := by
      rw [← h.len]
      rcases Nat.lt_or_ge i s.length with q | q
      · exact q
      · rw [List.getElem?_eq_none (by simpa using q)] at e; cases e
    cases e2
    exact ⟨v, by rw [List.getElem?_set_self hi], q⟩
  · obtain ⟨v', a, b⟩ := h.at' j d' e
    exact ⟨v', by rw [List.getElem?_set_ne n]; exact a, b⟩
theorem RelSt.unset (h : RelSt K mg r H s σ) (i : Nat) : RelSt K mg r H (s.set i none) (σ.set i none) := by
  refine ⟨by simp [h.len], fun j d' e => ?_⟩
  rcases get_set e with ⟨e1, e2⟩ | ⟨n, e⟩
  · cases e2
  · obtain ⟨v', a, b⟩ := h.at' j d' e
    exact ⟨v', by rw [List.getElem?_set_ne n]; exact a, b⟩

def Post (K : PySem.W.Frag) (mg : Str → Option Value) (rr : RR α β) (W : WX) (r : List Addr) (σ : L2.St) (H : Hp) (Q : β → Hp → Prop) (x : R α) : Prop := match x with
  | .ok a h' => ∀ r' b H', Ext r r' → Keep H H' → Rep K mg r' h' H' → rr.rel K mg r' H' a b → Q b H'
  | .exc c fs h' => ∀ r' cls dd H', Ext r r' → Keep H H' → Rep K mg r' h' H' → XRel K mg r' H' c fs cls dd → W cls dd σ H'
  | .bad => False
def tM (K : PySem.W.Frag) (mg : Str → Option Value) (rr : RR α β) (W : WX) (m : SD → HP → R α) : L2.St → Hp → (β → Hp → Prop) → Prop := fun σ H Q =>
  ∃ r s h, Rep K mg r h H ∧ RelSt K mg r H s σ ∧ Post K mg rr W r σ H Q (m s h)

theorem Post.mono {rr : RR α β} {Q : β → Hp → Prop} {x : R α} (p : Post K mg rr W r σ H Q x) (e : Ext r r1) (k : Keep H H1) : Post K mg rr W r1 σ H1 Q x := by
  cases x with
  | ok a h' => exact fun r' b H' e' k' => p r' b H' (e.trans e') (k.trans k')
  | exc c fs h' => exact fun r' cls dd H' e' k' => p r' cls dd H' (e.trans e') (k.trans k')
  | bad => exact p
theorem Post.imp {rr : RR α β} {Q Q' : β → Hp → Prop} {x : R α} (p : Post K mg rr W r σ H Q x) (q : ∀ b H', Q b H' → Q' b H') : Post K mg rr W r σ H Q' x := by
  cases x with
  | ok a h' => exact fun r' b H' e' k' rp rl => q _ _ (p r' b H' e' k' rp rl)
  | exc c fs h' => exact p
  | bad => exact p
theorem Post.bind {rr1 : RR α β} {rr2 : RR γ δ} {Q : δ → Hp → Prop} {x : R α} {k : α → HP → R γ} (p : Post K mg rr2 W r σ H Q (x.bind k)) :
    Post K mg rr1 W r σ H (fun b H1 => ∃ r1 a h1, Ext r r1 ∧ Keep H H1 ∧ Rep K mg r1 h1 H1 ∧ rr1.rel K mg r1 H1 a b ∧ Post K mg rr2 W r1 σ H1 Q (k a h1)) x := by
  cases x with
  | ok a h' => exact fun r' b H' e' k' rp rl => ⟨r', a, h', e', k', rp, rl, Post.mono p e' k'⟩
  | exc c fs h' => exact p
  | bad => exact p
/-- the first of two steps -/
theorem tM.bind {rr1 : RR α β} {rr2 : RR γ δ} {Q : δ → Hp → Prop} {m : SD → HP → R α} {k : SD → α → HP → R γ} (t : tM K mg rr2 W (fun s h => (m s h).bind (k s)) σ H Q) :
    tM K mg rr1 W m σ H (fun b H1 => ∃ r1 s a h1, Rep K mg r1 h1 H1 ∧ RelSt K mg r1 H1 s σ ∧ rr1.rel K mg r1 H1 a b ∧ Post K mg rr2 W r1 σ H1 Q (k s a h1)) := by
  obtain ⟨r, s, h, rp, rs, p⟩ := t
  exact ⟨r, s, h, rp, rs, (Post.bind (rr1 := rr1) p).imp fun b H' ⟨r1, a, h1, e, k, rp, rl, q⟩ => ⟨r1, s, a, h1, rp, rs.mono e k, rl, q⟩⟩
/-- a value at hand -/
theorem Post.here {rr : RR α β} {Q : β → Hp → Prop} {a : α} {b : β} (p : Post K mg rr W r σ H Q (.ok a h)) (rp : Rep K mg r h H) (rl : rr.rel K mg r H a b) : Q b H := p r b H (Ext.refl r) (Keep.refl H) rp rl

/-! ### values alone (no error) -/
def PostV (K : PySem.W.Frag) (mg : Str → Option Value) (r : List Addr) (H : Hp) (Q : VK) (x : Option (D × HP)) : Prop := match x with
  | some (d, h') => ∀ r' v H', Ext r r' → Keep H H' → Rep K mg r' h' H' → RelD K mg r' H' d v → Q v H'
  | none => False
theorem Post.ofO {Q : VK} {x : Option (D × HP)} (p : Post K mg rD W r σ H Q (ofO x)) : PostV K mg r H Q x := by
  cases x with
  | none => exact p
  | some y => obtain ⟨d, h'⟩ := y; exact p
theorem PostV.mono {Q : VK} {x : Option (D × HP)} (p : PostV K mg r H Q x) (e : Ext r r1) (k : Keep H H1) : PostV K mg r1 H1 Q x := by
  cases x with
  | none => exact p
  | some y => obtain ⟨d, h'⟩ := y; exact fun r' v H' e' k' => p r' v H' (e.trans e') (k.trans k')
theorem PostV.here {Q : VK} {d : D} {v : V} (p : PostV K mg r H Q (some (d, h))) (rp : Rep K mg r h H) (rl : RelD K mg r H d v) : Q v H := p r v H (Ext.refl r) (Keep.refl H) rp rl
/-- a new list (a new object of the plain heap) -/
theorem PostV.lst {Q : VK} {xs : List D} {vs : List V} {p : Addr} (q : PostV K mg r H Q (some (.ref h.length, h ++ [.lst xs]))) (rp : Rep K mg r h H) (rl : RelDs K mg r H xs vs) (hp : H p = none) : Q (.ref p) (upd H p (.lst vs)) := by
  refine q (r ++ [p]) _ _ (Ext.one r p) (Keep.new hp) (rp.new hp ⟨vs, upd_same, rl.mono (Ext.one r p) (Keep.new hp)⟩) (.ref ?_)
  rw [List.getElem?_append_right (by rw [rp.len]; exact Nat.le_refl _), rp.len]; simp
/-- a new tuple -/
theorem PostV.tup {Q : VK} {xs : List D} {vs : List V} {p : Addr} (q : PostV K mg r H Q (some (.tup xs, h))) (rp : Rep K mg r h H) (rl : RelDs K mg r H xs vs) (hp : H p = none) : Q (.ref p) (upd H p (.tup vs)) :=
  q r _ _ (Ext.refl r) (Keep.new hp) (rp.fresh hp) (.tup upd_same (rl.mono (Ext.refl r) (Keep.new hp)))

def rV2 (K : PySem.W.Frag) (mg : Str → Option Value) (g : D → D → HP → Option (D × HP)) : R2 := fun x y H Q => ∃ r a b h, Rep K mg r h H ∧ RelD K mg r H a x ∧ RelD K mg r H b y ∧ PostV K mg r H Q (g a b h)
def rV1 (K : PySem.W.Frag) (mg : Str → Option Value) (g : D → HP → Option (D × HP)) : V → Hp → VK → Prop := fun x H Q => ∃ r a h, Rep K mg r h H ∧ RelD K mg r H a x ∧ PostV K mg r H Q (g a h)
def rVs (K : PySem.W.Frag) (mg : Str → Option Value) (g : List D → HP → Option (D × HP)) : List V → Hp → VK → Prop := fun xs H Q => ∃ r ds h, Rep K mg r h H ∧ RelDs K mg r H ds xs ∧ PostV K mg r H Q (g ds h)
def rVm (K : PySem.W.Frag) (mg : Str → Option Value) (g : D → List D → HP → Option (D × HP)) : V → List V → Hp → VK → Prop := fun x xs H Q => ∃ r d ds h, Rep K mg r h H ∧ RelD K mg r H d x ∧ RelDs K mg r H ds xs ∧ PostV K mg r H Q (g d ds h)
end

/-! ### the steps of plain code -/
def mVar (i : Nat) : ME := fun s h => match s[i]? with
  | some (some d) => .ok d h
  | _ => .bad
def mC (d : D) : ME := fun _ h => .ok d h
def m1 (g : D → HP → Option (D × HP)) (a : ME) : ME := fun s h => (a s h).bind fun x h => ofO (g x h)
def m2 (g : D → D → HP → Option (D × HP)) (a b : ME) : ME := fun s h => (a s h).bind fun x h => (b s h).bind fun y h => ofO (g x y h)
def mNil : MA := fun _ h => .ok [] h
def mCons (a : ME) (t : MA) : MA := fun s h => (a s h).bind fun x h => (t s h).bind fun xs h => .ok (x :: xs) h
def mCall (g : List D → HP → R D) (t : MA) : ME := fun s h => (t s h).bind g
def mB (g : List D → HP → Option (D × HP)) (t : MA) : ME := fun s h => (t s h).bind fun xs h => ofO (g xs h)
def mMt (g : D → List D → HP → Option (D × HP)) (a : ME) (t : MA) : ME := fun s h => (a s h).bind fun x h => (t s h).bind fun xs h => ofO (g x xs h)
def kBl (x : D) (h : HP) : R Bool := match x with
  | .bl b => .ok b h
  | _ => .bad
def mTest (a : ME) : MT := fun s h => (a s h).bind kBl
def mNot (a : MT) : MT := fun s h => (a s h).bind fun b h => .ok (!b) h
def mAnd (a b : MT) : MT := fun s h => (a s h).bind fun x h => bif x then b s h else .ok false h
def mOr (a b : MT) : MT := fun s h => (a s h).bind fun x h => bif x then .ok true h else b s h
def mIfE (c : MT) (a b : ME) : ME := fun s h => (c s h).bind fun x h => bif x then a s h else b s h
def mAndV (a b : ME) : ME := fun s h => ((a s h).bind kBl).bind fun x h => bif x then b s h else .ok (.bl false) h
def mOrV (a b : ME) : ME := fun s h => ((a s h).bind kBl).bind fun x h => bif x then .ok (.bl true) h else b s h
def mNotV (a : ME) : ME := fun s h => ((a s h).bind kBl).bind fun x h => .ok (.bl (!x)) h
def mTup (t : MA) : ME := fun s h => (t s h).bind fun xs h => if xs.length ≤ 1000000 then .ok (.tup xs) h else .bad
def mLst (t : MA) : ME := fun s h => (t s h).bind fun xs h => if xs.length ≤ 1000000 then .ok (.ref h.length) (h ++ [.lst xs]) else .bad
abbrev MO := SD → HP → R (Option Int)
def mNoPart : MO := fun _ h => .ok none h
def kInt (x : D) (h : HP) : R (Option Int) := match x with
  | .int i => .ok (some i) h
  | _ => .bad
def mPart (a : ME) : MO := fun s h => (a s h).bind kInt
def mSl (g : D → Option Int → Option Int → HP → Option (D × HP)) (a : ME) (l u : MO) : ME := fun s h => (a s h).bind fun x h => (l s h).bind fun lo h => (u s h).bind fun hi h => ofO (g x lo hi h)

theorem line_of {n : Nat} (h : n ≤ 1000000) : n ≤ sizeLine := by rw [sizeLine_eq]; omega
theorem line_lt {n : Nat} (h : n < 1000000) : n < sizeLine := by rw [sizeLine_eq]; omega

theorem _root_.L2.PE.imp {X : Cx} {e : Expr} {t t' : TE} (h : PE X e t) (f : ∀ σ H Q, t' σ H Q → t σ H Q) : PE X e t' := ⟨fun pins s σ H Q I q => h.run pins s σ H Q I (f σ H Q q)⟩
theorem _root_.L2.PT.imp {X : Cx} {e : Expr} {t t' : TT} (h : PT X e t) (f : ∀ σ H Q, t' σ H Q → t σ H Q) : PT X e t' := ⟨fun pins s σ H Q I q => h.run pins s σ H Q I (f σ H Q q)⟩
theorem _root_.L2.PW.imp {X : Cx} {e : Expr} {t t' : TT} (h : PW X e t) (f : ∀ σ H Q, t' σ H Q → t σ H Q) : PW X e t' := ⟨fun w pins s σ H Q I q => h.run w pins s σ H Q I (f σ H Q q)⟩
theorem _root_.L2.PA.imp {X : Cx} {e : List Expr} {t t' : TA} (h : PA X e t) (f : ∀ σ H Q, t' σ H Q → t σ H Q) : PA X e t' := ⟨fun pos pins s σ H Q I q => h.run pos pins s σ H Q I (f σ H Q q)⟩
theorem _root_.L2.PO.imp {X : Cx} {e : Option Expr} {t t' : TO} (h : PO X e t) (f : ∀ σ H Q, t' σ H Q → t σ H Q) : PO X e t' := ⟨fun pins s σ H Q I q => h.run pins s σ H Q I (f σ H Q q)⟩
theorem _root_.L2.PS.imp {X : Cx} {e : Stmt} {t t' : TS} (h : PS X e t) (f : ∀ D σ H, t' D σ H → t D σ H) : PS X e t' := ⟨fun pins s σ H D I q => h.run pins s σ H D I (f D σ H q)⟩
theorem _root_.L2.PSs.imp {X : Cx} {e : List Stmt} {t t' : TS} (h : PSs X e t) (f : ∀ D σ H, t' D σ H → t D σ H) : PSs X e t' := ⟨fun pins s σ H D I q => h.run pins s σ H D I (f D σ H q)⟩

section
variable {X : Cx} {W : WX} {a b c e : Expr} {es rest : List Expr} {ma mb mc : ME} {ta tb : MT} {t : MA} {pos : Pos}
abbrev QE (X : Cx) (W : WX) (e : Expr) (m : ME) : Prop := PE X e (tM X.K X.mg rD W m)
abbrev QT (X : Cx) (W : WX) (e : Expr) (m : MT) : Prop := PT X e (tM X.K X.mg rB W m)
abbrev QW (X : Cx) (W : WX) (e : Expr) (m : MT) : Prop := PW X e (tM X.K X.mg rB W m)
abbrev QA (X : Cx) (W : WX) (es : List Expr) (m : MA) : Prop := PA X es (tM X.K X.mg rDs W m)
abbrev QO (X : Cx) (W : WX) (e : Option Expr) (m : MO) : Prop := PO X e (tM X.K X.mg rOI W m)

theorem qe_var {i : Nat} {x : Str} (hN : X.N[i]? = some x := by rfl) (hv : Vis X.env.scope x := by first | exact Or.inl rfl | exact Or.inr (Or.inl rfl) | exact Or.inr (Or.inr rfl)) (hd : (x == ("__debug__" : Str)) = false := by decide)
    (hcd : (x == ("__classdict__" : Str)) = false := by decide) : QE X W (.Name x pos) (mVar i) := (pe_var hN hv hd hcd).imp fun σ H Q ⟨r, s, h, rp, rs, p⟩ => by
  unfold mVar at p
  cases q : s[i]? with
  | none => rw [q] at p; exact p.elim
  | some o =>
    cases o with
    | none => rw [q] at p; exact p.elim
    | some d =>
      rw [q] at p
      obtain ⟨v, e1, e2⟩ := rs.at' i d q
      exact ⟨v, e1, Post.here p rp e2⟩
theorem qe_const {d : D} {v : V} (hp : PE X e (tC v)) (hd : ∀ r H, RelD X.K X.mg r H d v) : QE X W e (mC d) := hp.imp fun σ H Q ⟨r, s, h, rp, rs, p⟩ => Post.here p rp (hd r H)
theorem qe_int {i : Int} {j} : QE X W (.Constant (.int i) j pos) (mC (.int i)) := qe_const pe_int fun _ _ => .int i
theorem qe_str {x : Str} {j} : QE X W (.Constant (.str x) j pos) (mC (.str x)) := qe_const pe_str fun _ _ => .str x
theorem qe_bl {x : Bool} {j} : QE X W (.Constant (.bool x) j pos) (mC (.bl x)) := qe_const pe_bl fun _ _ => .bl x
theorem qe_non {j} : QE X W (.Constant .none j pos) (mC .non) := qe_const pe_non fun _ _ => .non
theorem qe_gint {x : Str} {i : Int} {t : Tok} (hg : Gl X x) (hm : X.mg x = some (.int i t)) (hd : (x == ("__debug__" : Str)) = false := by decide) : QE X W (.Name x pos) (mC (.int i)) := qe_const (pe_glob (v := .int i) hg hm ⟨_, rfl⟩ hd) fun _ _ => .int i
theorem qe_gstr {x : Str} {i : Str} {t : Tok} (hg : Gl X x) (hm : X.mg x = some (.str i t)) (hd : (x == ("__debug__" : Str)) = false := by decide) : QE X W (.Name x pos) (mC (.str i)) := qe_const (pe_glob (v := .str i) hg hm ⟨_, rfl⟩ hd) fun _ _ => .str i
theorem qe_fn {x : Str} {ad : Addr} (hg : Gl X x) (hm : X.mg x = some (.ref ad)) (hd : (x == ("__debug__" : Str)) = false := by decide) : QE X W (.Name x pos) (mC (.fn x)) := qe_const (pe_glob (v := .ref ad) hg hm rfl hd) fun _ _ => .fn hm
theorem qe_ty {x : Str} {n : String} (hg : Gl X x) (hm : X.mg x = none) (hv : bootBuiltins x = some (.type n)) (hn : x ≠ "__name__" := by decide) (hd : (x == ("__debug__" : Str)) = false := by decide) : QE X W (.Name x pos) (mC (.ty n)) :=
  qe_const (pe_bltn (v := .ty n) hg hm hv rfl hn hd) fun _ _ => .ty n

/-- two operands -/
theorem two {g : D → D → HP → Option (D × HP)} {σ : L2.St} {H : Hp} {Q : VK} (q : tM X.K X.mg rD W (m2 g ma mb) σ H Q) :
    tOp (rV2 X.K X.mg g) (tM X.K X.mg rD W ma) (tM X.K X.mg rD W mb) σ H Q := by
  have q1 := tM.bind (rr1 := rD) (m := ma) (k := fun s x h => (mb s h).bind fun y h => ofO (g x y h)) q
  obtain ⟨r, s, h, rp, rs, p⟩ := q1
  refine ⟨r, s, h, rp, rs, p.imp fun x H1 ⟨r1, s1, a, h1, rp1, rs1, rl1, p1⟩ => ?_⟩
  refine ⟨r1, s1, h1, rp1, rs1, (Post.bind (rr1 := rD) p1).imp fun y H2 ⟨r2, b, h2, e2, k2, rp2, rl2, p2⟩ => ?_⟩
  exact ⟨r2, a, b, h2, rp2, rl1.mono e2 k2, rl2, p2.ofO⟩
theorem qe_op {op : Operator} {g : D → D → HP → Option (D × HP)} (ho : OpR X (binaryOp op) (rV2 X.K X.mg g)) (ha : QE X W a ma) (hb : QE X W b mb) : QE X W (.BinOp a op b pos) (m2 g ma mb) :=
  (pe_op ho ha hb).imp fun _ _ _ q => two q
theorem qe_cmp {op : CmpOp} {g : D → D → HP → Option (D × HP)} (ho : OpR X (compareOp op) (rV2 X.K X.mg g)) (ha : QE X W a ma) (hb : QE X W b mb) (hm : behindInMarks op b = false := by first | exact nomark _ | rfl) : QE X W (.Compare a [op] [b] pos) (m2 g ma mb) :=
  (pe_cmpR ho ha hb hm).imp fun _ _ _ q => two q
theorem qe_ix {g : D → D → HP → Option (D × HP)} (ho : IxR X (rV2 X.K X.mg g)) (ha : QE X W a ma) (hb : QE X W b mb) (hs : PlainIx b := by exact fun _ _ => rfl) : QE X W (.Subscript a b pos) (m2 g ma mb) :=
  (pe_ix ho ha hb hs).imp fun _ _ _ q => two q
theorem qe_un {op : UnaryOp} {g : D → HP → Option (D × HP)} (ho : UnR X (unaryOp op) (rV1 X.K X.mg g)) (ha : QE X W a ma) : QE X W (.UnaryOp op a pos) (m1 g ma) :=
  (pe_un ho ha).imp fun σ H Q q => by
    obtain ⟨r, s, h, rp, rs, p⟩ := tM.bind (rr1 := rD) (m := ma) (k := fun s x h => ofO (g x h)) q
    exact ⟨r, s, h, rp, rs, p.imp fun x H1 ⟨r1, s1, a, h1, rp1, rs1, rl1, p1⟩ => ⟨r1, a, h1, rp1, rl1, p1.ofO⟩⟩

/-! tests -/
theorem bool_of {γ δ : Type} {rr : RR γ δ} {K : PySem.W.Frag} {mg : Str → Option Value} {r : List Addr} {H : Hp} {σ : L2.St} {d : D} {v : V} {h : HP} {Q : δ → Hp → Prop} {k : Bool → HP → R γ} (rp : Rep K mg r h H) (rl : RelD K mg r H d v)
    (p : Post K mg rr W r σ H Q ((kBl d h).bind k)) : ∃ b, v = .bl b ∧ Post K mg rr W r σ H Q (k b h) := by
  cases rl with
  | bl b => exact ⟨b, rfl, p⟩
  | _ => exact p.elim
theorem bind_id {α : Type} (x : R α) : x = x.bind .ok := by cases x <;> rfl
theorem bind_bind {α β γ : Type} (x : R α) (f : α → HP → R β) (g : β → HP → R γ) : (x.bind f).bind g = x.bind fun a h => (f a h).bind g := by cases x <;> rfl
theorem bool_of' {K : PySem.W.Frag} {mg : Str → Option Value} {r : List Addr} {H : Hp} {σ : L2.St} {d : D} {v : V} {h : HP} {Q : Bool → Hp → Prop} (rp : Rep K mg r h H) (rl : RelD K mg r H d v)
    (p : Post K mg rB W r σ H Q (kBl d h)) : ∃ b, v = .bl b ∧ Q b H := by
  rw [bind_id (kBl d h)] at p
  obtain ⟨b, e, q⟩ := bool_of rp rl p
  exact ⟨b, e, Post.here (rr := rB) q rp rfl⟩
theorem qt_val (ha : QE X W a ma) (he : ∀ whole, isTrue a X.env whole = (do let v ← whole; standAt a.pos; holding [v] (truthy v)) := by intro _; rfl) : QT X W a (mTest ma) :=
  (pt_val ha he).imp fun σ H Q q => by
    obtain ⟨r, s, h, rp, rs, p⟩ := tM.bind (rr1 := rD) (m := ma) (k := fun s => kBl) q
    exact ⟨r, s, h, rp, rs, p.imp fun x H1 ⟨r1, s1, d, h1, rp1, rs1, rl1, p1⟩ => bool_of' rp1 rl1 p1⟩
theorem qt_cmp {op : CmpOp} {g : D → D → HP → Option (D × HP)} (ho : OpR X (compareOp op) (rV2 X.K X.mg g)) (ha : QE X W a ma) (hb : QE X W b mb) (hm : behindInMarks op b = false := by first | exact nomark _ | rfl) : QT X W (.Compare a [op] [b] pos) (mTest (m2 g ma mb)) :=
  (pt_cmpR ho ha hb hm).imp fun σ H Q q => by
    have q1 := tM.bind (rr1 := rD) (m := m2 g ma mb) (k := fun s => kBl) q
    have q2 := two q1
    obtain ⟨r, s, h, rp, rs, p⟩ := q2
    refine ⟨r, s, h, rp, rs, p.imp fun x H1 ⟨r1, s1, h1, rp1, rs1, p1⟩ => ⟨r1, s1, h1, rp1, rs1, p1.imp fun y H2 ⟨r2, a, b, h2, rp2, rla, rlb, p2⟩ => ⟨r2, a, b, h2, rp2, rla, rlb, ?_⟩⟩⟩
    cases e : g a b h2 with
    | none => rw [e] at p2; exact p2.elim
    | some z =>
      obtain ⟨d, h3⟩ := z
      rw [e] at p2
      exact fun r3 v H3 e3 k3 rp3 rl3 => by
        obtain ⟨r4, s4, a4, h4, rp4, rs4, rl4, p4⟩ := p2 r3 v H3 e3 k3 rp3 rl3
        exact bool_of' rp4 rl4 p4
theorem qt_not (ha : QT X W a ta) : QT X W (.UnaryOp .Not a pos) (mNot ta) := (pt_not ha).imp fun σ H Q q => by
  obtain ⟨r, s, h, rp, rs, p⟩ := tM.bind (rr1 := rB) (m := ta) (k := fun s b h => .ok (!b) h) q
  exact ⟨r, s, h, rp, rs, p.imp fun x H1 ⟨r1, s1, a, h1, rp1, rs1, rl1, p1⟩ => by cases rl1; exact Post.here (rr := rB) p1 rp1 rfl⟩
theorem qw_one (ha : QT X W a ta) : QW X W (.BoolOp .And [a] pos) ta := pw_and1 ha
theorem qw_one' (ha : QT X W a ta) : QW X W (.BoolOp .Or [a] pos) ta := pw_or1 ha
theorem qw_and (ha : QT X W a ta) (hb : QW X W (.BoolOp .And (b :: rest) pos) tb) : QW X W (.BoolOp .And (a :: b :: rest) pos) (mAnd ta tb) := (pw_and ha hb).imp fun σ H Q q => by
  obtain ⟨r, s, h, rp, rs, p⟩ := tM.bind (rr1 := rB) (m := ta) (k := fun s x h => bif x then tb s h else .ok false h) q
  refine ⟨r, s, h, rp, rs, p.imp fun x H1 ⟨r1, s1, d, h1, rp1, rs1, rl1, p1⟩ => ?_⟩
  cases rl1
  cases x with
  | true => exact ⟨r1, s1, h1, rp1, rs1, p1⟩
  | false => exact Post.here (rr := rB) p1 rp1 rfl
theorem qw_or (ha : QT X W a ta) (hb : QW X W (.BoolOp .Or (b :: rest) pos) tb) : QW X W (.BoolOp .Or (a :: b :: rest) pos) (mOr ta tb) := (pw_or ha hb).imp fun σ H Q q => by
  obtain ⟨r, s, h, rp, rs, p⟩ := tM.bind (rr1 := rB) (m := ta) (k := fun s x h => bif x then .ok true h else tb s h) q
  refine ⟨r, s, h, rp, rs, p.imp fun x H1 ⟨r1, s1, d, h1, rp1, rs1, rl1, p1⟩ => ?_⟩
  cases rl1
  cases x with
  | true => exact Post.here (rr := rB) p1 rp1 rfl
  | false => exact ⟨r1, s1, h1, rp1, rs1, p1⟩
theorem qt_w (h : QW X W a ta) : QT X W a ta := h.pt
theorem qe_ifExp (hc : QT X W c ta) (ha : QE X W a ma) (hb : QE X W b mb) : QE X W (.IfExp c a b pos) (mIfE ta ma mb) := (pe_ifExp hc ha hb).imp fun σ H Q q => by
  obtain ⟨r, s, h, rp, rs, p⟩ := tM.bind (rr1 := rB) (m := ta) (k := fun s x h => bif x then ma s h else mb s h) q
  refine ⟨r, s, h, rp, rs, p.imp fun x H1 ⟨r1, s1, d, h1, rp1, rs1, rl1, p1⟩ => ?_⟩
  cases rl1
  cases x with
  | true => exact ⟨r1, s1, h1, rp1, rs1, p1⟩
  | false => exact ⟨r1, s1, h1, rp1, rs1, p1⟩
theorem qe_one {op} (ha : QE X W a ma) : QE X W (.BoolOp op [a] pos) ma := pe_one ha
theorem bl_bind {γ δ : Type} {rr : RR γ δ} {σ : L2.St} {H : Hp} {Q : δ → Hp → Prop} {k : SD → Bool → HP → R γ} (q : tM X.K X.mg rr W (fun s h => ((ma s h).bind kBl).bind (k s)) σ H Q) :
    tM X.K X.mg rD W ma σ H (fun v H1 => ∃ b, v = .bl b ∧ ∃ r1 s h1, Rep X.K X.mg r1 h1 H1 ∧ RelSt X.K X.mg r1 H1 s σ ∧ Post X.K X.mg rr W r1 σ H1 Q (k s b h1)) := by
  have q' : tM X.K X.mg rr W (fun s h => (ma s h).bind fun x h => (kBl x h).bind (k s)) σ H Q := by
    obtain ⟨r, s, h, rp, rs, p⟩ := q
    refine ⟨r, s, h, rp, rs, ?_⟩
    dsimp only at p ⊢
    rw [bind_bind] at p
    exact p
  obtain ⟨r, s, h, rp, rs, p⟩ := tM.bind (rr1 := rD) (m := ma) (k := fun s x h => (kBl x h).bind (k s)) q'
  refine ⟨r, s, h, rp, rs, p.imp fun x H1 ⟨r1, s1, d, h1, rp1, rs1, rl1, p1⟩ => ?_⟩
  obtain ⟨b, e, p2⟩ := bool_of rp1 rl1 p1
  exact ⟨b, e, r1, s1, h1, rp1, rs1, p2⟩
theorem qe_and (ha : QE X W a ma) (hb : QE X W (.BoolOp .And (b :: rest) pos) mb) : QE X W (.BoolOp .And (a :: b :: rest) pos) (mAndV ma mb) := (pe_and ha hb).imp fun σ H Q q => by
  obtain ⟨r, s, h, rp, rs, p⟩ := bl_bind (ma := ma) (k := fun s x h => bif x then mb s h else .ok (.bl false) h) q
  refine ⟨r, s, h, rp, rs, p.imp fun x H1 ⟨b, e, r1, s1, h1, rp1, rs1, p1⟩ => ⟨b, e, ?_⟩⟩
  cases b with
  | true => exact ⟨r1, s1, h1, rp1, rs1, p1⟩
  | false => exact Post.here (rr := rD) p1 rp1 (.bl false)
theorem qe_or (ha : QE X W a ma) (hb : QE X W (.BoolOp .Or (b :: rest) pos) mb) : QE X W (.BoolOp .Or (a :: b :: rest) pos) (mOrV ma mb) := (pe_or ha hb).imp fun σ H Q q => by
  obtain ⟨r, s, h, rp, rs, p⟩ := bl_bind (ma := ma) (k := fun s x h => bif x then .ok (.bl true) h else mb s h) q
  refine ⟨r, s, h, rp, rs, p.imp fun x H1 ⟨b, e, r1, s1, h1, rp1, rs1, p1⟩ => ⟨b, e, ?_⟩⟩
  cases b with
  | true => exact Post.here (rr := rD) p1 rp1 (.bl true)
  | false => exact ⟨r1, s1, h1, rp1, rs1, p1⟩
theorem qe_not (ha : QE X W a ma) : QE X W (.UnaryOp .Not a pos) (mNotV ma) := (pe_not ha).imp fun σ H Q q => by
  obtain ⟨r, s, h, rp, rs, p⟩ := bl_bind (ma := ma) (k := fun s x h => R.ok (D.bl (!x)) h) q
  exact ⟨r, s, h, rp, rs, p.imp fun x H1 ⟨b, e, r1, s1, h1, rp1, rs1, p1⟩ => ⟨b, e, Post.here (rr := rD) p1 rp1 (.bl _)⟩⟩

/-! lists of arguments, displays -/
theorem qa_nil : QA X W [] mNil := pa_nil.imp fun σ H Q ⟨r, s, h, rp, rs, p⟩ => Post.here (rr := rDs) p rp .nil
theorem qa_cons (ha : QE X W e ma) (ht : QA X W es t) (hs : starEach (e :: es) X.env = (false, eval e X.env) :: starEach es X.env := by rfl) : QA X W (e :: es) (mCons ma t) := (pa_cons ha ht hs).imp fun σ H Q q => by
  obtain ⟨r, s, h, rp, rs, p⟩ := tM.bind (rr1 := rD) (m := ma) (k := fun s x h => (t s h).bind fun xs h => .ok (x :: xs) h) q
  refine ⟨r, s, h, rp, rs, p.imp fun x H1 ⟨r1, s1, a, h1, rp1, rs1, rl1, p1⟩ => ?_⟩
  refine ⟨r1, s1, h1, rp1, rs1, (Post.bind (rr1 := rDs) p1).imp fun y H2 ⟨r2, b, h2, e2, k2, rp2, rl2, p2⟩ => ?_⟩
  exact Post.here (rr := rDs) p2 rp2 (.cons (rl1.mono e2 k2) rl2)
theorem qe_tup {x1} (ht : QA X W es t) : QE X W (.Tuple es x1 pos) (mTup t) := (pe_tup ht).imp fun σ H Q q => by
  obtain ⟨r, s, h, rp, rs, p⟩ := tM.bind (rr1 := rDs) (m := t) (k := fun s xs h => if xs.length ≤ 1000000 then .ok (D.tup xs) h else .bad) q
  refine ⟨r, s, h, rp, rs, p.imp fun x H1 ⟨r1, s1, a, h1, rp1, rs1, rl1, p1⟩ => ?_⟩
  by_cases hz : a.length ≤ 1000000
  · rw [if_pos hz] at p1
    exact ⟨line_of (by rw [← rl1.length]; exact hz), fun p hp => p1 r1 _ _ (Ext.refl _) (Keep.new hp) (rp1.fresh hp) (.tup upd_same (rl1.mono (Ext.refl _) (Keep.new hp)))⟩
  · rw [if_neg hz] at p1; exact p1.elim
theorem qe_lst (ht : QA X W es t) : QE X W (.List es pos) (mLst t) := (pe_lst ht).imp fun σ H Q q => by
  obtain ⟨r, s, h, rp, rs, p⟩ := tM.bind (rr1 := rDs) (m := t) (k := fun s xs h => if xs.length ≤ 1000000 then .ok (D.ref h.length) (h ++ [.lst xs]) else .bad) q
  refine ⟨r, s, h, rp, rs, p.imp fun x H1 ⟨r1, s1, a, h1, rp1, rs1, rl1, p1⟩ => ?_⟩
  by_cases hz : a.length ≤ 1000000
  · rw [if_pos hz] at p1
    exact ⟨line_of (by rw [← rl1.length]; exact hz), fun p hp => PostV.lst (h := h1) (show PostV X.K X.mg r1 H1 Q (some (.ref h1.length, h1 ++ [.lst a])) from p1) rp1 rl1 hp⟩
  · rw [if_neg hz] at p1; exact p1.elim

/-! slices -/
theorem qo_none : QO X W none mNoPart := po_none.imp fun σ H Q ⟨r, s, h, rp, rs, p⟩ => Post.here (rr := rOI) p rp rfl
theorem qo_some (ha : QE X W a ma) : QO X W (some a) (mPart ma) := (po_some ha).imp fun σ H Q q => by
  obtain ⟨r, s, h, rp, rs, p⟩ := tM.bind (rr1 := rD) (m := ma) (k := fun s => kInt) q
  refine ⟨r, s, h, rp, rs, p.imp fun x H1 ⟨r1, s1, a, h1, rp1, rs1, rl1, p1⟩ => ?_⟩
  cases rl1 with
  | int i => exact ⟨i, rfl, Post.here (rr := rOI) p1 rp1 rfl⟩
  | _ => exact p1.elim
def rVsl (K : PySem.W.Frag) (mg : Str → Option Value) (g : D → Option Int → Option Int → HP → Option (D × HP)) : V → Option Int → Option Int → Hp → VK → Prop := fun x lo hi H Q => ∃ r d h, Rep K mg r h H ∧ RelD K mg r H d x ∧ PostV K mg r H Q (g d lo hi h)
theorem qe_slice {g : D → Option Int → Option Int → HP → Option (D × HP)} {lo hi : Option Expr} {ml mh : MO} {p2 : Pos} (hr : SlR X (rVsl X.K X.mg g)) (ha : QE X W a ma) (hl : QO X W lo ml) (hh : QO X W hi mh) :
    QE X W (.Subscript a (.Slice lo hi none p2) pos) (mSl g ma ml mh) := (pe_slice hr ha hl hh).imp fun σ H Q q => by
  obtain ⟨r, s, h, rp, rs, p⟩ := tM.bind (rr1 := rD) (m := ma) (k := fun s x h => (ml s h).bind fun lo h => (mh s h).bind fun hi h => ofO (g x lo hi h)) q
  refine ⟨r, s, h, rp, rs, p.imp fun x H1 ⟨r1, s1, a, h1, rp1, rs1, rl1, p1⟩ => ?_⟩
  refine ⟨r1, s1, h1, rp1, rs1, (Post.bind (rr1 := rOI) p1).imp fun y H2 ⟨r2, b, h2, e2, k2, rp2, rl2, p2⟩ => ?_⟩
  refine ⟨r2, s1, h2, rp2, rs1.mono e2 k2, (Post.bind (rr1 := rOI) p2).imp fun z H3 ⟨r3, c, h3, e3, k3, rp3, rl3, p3⟩ => ?_⟩
  cases rl2
  cases rl3
  exact ⟨r3, a, h3, rp3, rl1.mono (e2.trans e3) (k2.trans k3), p3.ofO⟩

/-! calls of built-ins, methods of built-ins -/
theorem qe_callB {g : List D → HP → Option (D × HP)} {x : Str} {p : Pos} {id : String} (hc : CallR X (.builtin id) (rVs X.K X.mg g)) (hg : Gl X x) (hm : X.mg x = none) (hv : bootBuiltins x = some (.builtin id)) (ha : QA X W (e :: es) t) (hn : x ≠ "__name__" := by decide) (hdb : (x == ("__debug__" : Str)) = false := by decide)
    (he : starEach (e :: es) X.env = (false, eval e X.env) :: starEach es X.env := by rfl) (hpl : (backTo pos (starEach es X.env)).any (·.1) = false := by rfl) : QE X W (.Call (.Name x p) (e :: es) [] pos) (mB g t) :=
  (pe_callB hc hg hm hv ha hn hdb he hpl).imp fun σ H Q q => by
    obtain ⟨r, s, h, rp, rs, p⟩ := tM.bind (rr1 := rDs) (m := t) (k := fun s xs h => ofO (g xs h)) q
    exact ⟨r, s, h, rp, rs, p.imp fun x H1 ⟨r1, s1, a, h1, rp1, rs1, rl1, p1⟩ => ⟨r1, a, h1, rp1, rl1, p1.ofO⟩⟩
theorem qe_callTy {g : List D → HP → Option (D × HP)} {x : Str} {p : Pos} {T : String} (hc : CallR X (.type T) (rVs X.K X.mg g)) (hg : Gl X x) (hm : X.mg x = none) (hv : bootBuiltins x = some (.type T)) (ha : QA X W (e :: es) t) (hn : x ≠ "__name__" := by decide) (hdb : (x == ("__debug__" : Str)) = false := by decide)
    (he : starEach (e :: es) X.env = (false, eval e X.env) :: starEach es X.env := by rfl) (hpl : (backTo pos (starEach es X.env)).any (·.1) = false := by rfl) : QE X W (.Call (.Name x p) (e :: es) [] pos) (mB g t) :=
  (pe_callTy hc hg hm hv ha hn hdb he hpl).imp fun σ H Q q => by
    obtain ⟨r, s, h, rp, rs, p⟩ := tM.bind (rr1 := rDs) (m := t) (k := fun s xs h => ofO (g xs h)) q
    exact ⟨r, s, h, rp, rs, p.imp fun x H1 ⟨r1, s1, a, h1, rp1, rs1, rl1, p1⟩ => ⟨r1, a, h1, rp1, rl1, p1.ofO⟩⟩
/-- o.m(e, ..), m a built-in type's method. ty: of what type the receiver must be -/
def tyD (T : String) (d : D) (h : HP) : Prop := match d with
  | .str _ => T = "str"
  | .ref i => (T = "list" ∧ ∃ xs, h[i]? = some (.lst xs)) ∨ (T = "dict" ∧ ∃ xs, h[i]? = some (.dic xs))
  | .tup _ => T = "tuple"
  | _ => False
end
end PM
end
section
set_option Elab.async false
set_option linter.all false
set_option maxRecDepth 100000
set_option maxHeartbeats 1000000
namespace PM
open PySem PySem.Spec PyProof.Rows L2

section
variable {K : PySem.W.Frag} {mg : Str → Option Value} {r r' r1 : List Addr} {H H' H1 : Hp} {h : HP} {s : SD} {σ : L2.St} {α β γ δ : Type} {W : WX} {D0 : Ends}

def PostS (K : PySem.W.Frag) (mg : Str → Option Value) (W : WX) (r : List Addr) (H : Hp) (D0 : Ends) (x : RS) : Prop := match x with
  | .nx s' h' => ∀ r' σ' H', Ext r r' → Keep H H' → Rep K mg r' h' H' → RelSt K mg r' H' s' σ' → D0.nx σ' H'
  | .bk s' h' => ∀ r' σ' H', Ext r r' → Keep H H' → Rep K mg r' h' H' → RelSt K mg r' H' s' σ' → D0.bk σ' H'
  | .ct s' h' => ∀ r' σ' H', Ext r r' → Keep H H' → Rep K mg r' h' H' → RelSt K mg r' H' s' σ' → D0.ct σ' H'
  | .rt d h' => ∀ r' v H', Ext r r' → Keep H H' → Rep K mg r' h' H' → RelD K mg r' H' d v → D0.rt v H'
  | .exc s' c fs h' => ∀ r' σ' cls dd H', Ext r r' → Keep H H' → Rep K mg r' h' H' → RelSt K mg r' H' s' σ' → XRel K mg r' H' c fs cls dd → W cls dd σ' H'
  | .bad => False
def tS (K : PySem.W.Frag) (mg : Str → Option Value) (W : WX) (m : MS) : TS := fun D0 σ H => ∃ r s h, Rep K mg r h H ∧ RelSt K mg r H s σ ∧ PostS K mg W r H D0 (m s h)

theorem PostS.mono {x : RS} (p : PostS K mg W r H D0 x) (e : Ext r r1) (k : Keep H H1) : PostS K mg W r1 H1 D0 x := by
  cases x with
  | nx s' h' => exact fun r' σ' H' e' k' => p r' σ' H' (e.trans e') (k.trans k')
  | bk s' h' => exact fun r' σ' H' e' k' => p r' σ' H' (e.trans e') (k.trans k')
  | ct s' h' => exact fun r' σ' H' e' k' => p r' σ' H' (e.trans e') (k.trans k')
  | rt d h' => exact fun r' v H' e' k' => p r' v H' (e.trans e') (k.trans k')
  | exc s' c fs h' => exact fun r' σ' cls dd H' e' k' => p r' σ' cls dd H' (e.trans e') (k.trans k')
  | bad => exact p
theorem PostS.here {s' : SD} {h' : HP} (p : PostS K mg W r H D0 (.nx s' h')) (rp : Rep K mg r h' H) (rs : RelSt K mg r H s' σ) : D0.nx σ H := p r σ H (Ext.refl r) (Keep.refl H) rp rs
/-- an expression, then a step -/
theorem PostS.ofE {rr : RR α β} {x : R α} {k : α → HP → RS} (rs : RelSt K mg r H s σ) (p : PostS K mg W r H D0 (x.toS s k)) :
    Post K mg rr W r σ H (fun b H1 => ∃ r1 a h1, Ext r r1 ∧ Keep H H1 ∧ Rep K mg r1 h1 H1 ∧ rr.rel K mg r1 H1 a b ∧ PostS K mg W r1 H1 D0 (k a h1)) x := by
  cases x with
  | ok a h' => exact fun r' b H' e' k' rp rl => ⟨r', a, h', e', k', rp, rl, PostS.mono p e' k'⟩
  | exc c fs h' => exact fun r' cls dd H' e' k' rp xr => p r' σ cls dd H' e' k' rp (rs.mono e' k') xr
  | bad => exact p
theorem tS.ofE {rr : RR α β} {m : SD → HP → R α} {k : SD → α → HP → RS} (t : tS K mg W (fun s h => (m s h).toS s (k s)) D0 σ H) :
    tM K mg rr W m σ H (fun b H1 => ∃ r1 s a h1, Rep K mg r1 h1 H1 ∧ RelSt K mg r1 H1 s σ ∧ rr.rel K mg r1 H1 a b ∧ PostS K mg W r1 H1 D0 (k s a h1)) := by
  obtain ⟨r, s, h, rp, rs, p⟩ := t
  exact ⟨r, s, h, rp, rs, (PostS.ofE (rr := rr) rs p).imp fun b H' ⟨r1, a, h1, e, k, rp, rl, q⟩ => ⟨r1, s, a, h1, rp, rs.mono e k, rl, q⟩⟩
theorem PostS.seq {x : RS} {k : MS} (p : PostS K mg W r H D0 (x.seq k)) : PostS K mg W r H { D0 with nx := fun σ' H' => tS K mg W k D0 σ' H' } x := by
  cases x with
  | nx s' h' => exact fun r' σ' H' e' k' rp rs => ⟨r', s', h', rp, rs, PostS.mono p e' k'⟩
  | bk s' h' => exact p
  | ct s' h' => exact p
  | rt d h' => exact p
  | exc s' c fs h' => exact p
  | bad => exact p
end

/-! ### statements of plain code -/
abbrev MG := D → SD → Option SD
def mNext : MS := fun s h => .nx s h
def mSeq (a b : MS) : MS := fun s h => (a s h).seq b
def mSet (i : Nat) (a : ME) : MS := fun s h => (a s h).toS s fun d h => .nx (s.set i (some d)) h
def ofS (x : Option SD) (h : HP) : RS := match x with
  | some s => .nx s h
  | none => .bad
def mAsg (g : MG) (a : ME) : MS := fun s h => (a s h).toS s fun d h => ofS (g d s) h
def mDrop (a : ME) : MS := fun s h => (a s h).toS s fun _ h => .nx s h
def mRet (a : ME) : MS := fun s h => (a s h).toS s fun d h => .rt d h
def mRetN : MS := fun _ h => .rt .non h
def mIfS (c : MT) (a b : MS) : MS := fun s h => (c s h).toS s fun x h => bif x then a s h else b s h
def mBreak : MS := fun s h => .bk s h
def mCont : MS := fun s h => .ct s h
def mBad : MS := fun _ _ => .bad
def mAug (i : Nat) (g : D → D → HP → Option (D × HP)) (a : ME) : MS := fun s h => match s[i]? with
  | some (some x) => (a s h).toS s fun y h => (ofO (g x y h)).toS s fun z h => .nx (s.set i (some z)) h
  | _ => .bad
def gN (i : Nat) : MG := fun d s => some (s.set i (some d))
def gNil : List D → SD → Option SD := fun ds s => match ds with
  | [] => some s
  | _ => none
def gCons (g : MG) (t : List D → SD → Option SD) : List D → SD → Option SD := fun ds s => match ds with
  | d :: ds => (g d s).bind fun s => t ds s
  | [] => none
def gTup (n : Nat) (t : List D → SD → Option SD) : MG := fun d s => match d with
  | .tup ds => if ds.length = n then t ds s else none
  | .stp ds => if ds.length = n then t ds s else none
  | _ => none
def wN : Nat := 1000000000
def mWhileN : Nat → MT → MS → MS
  | 0, _, _ => fun _ _ => .bad
  | n + 1, c, b => fun s h => (c s h).toS s fun x h => bif x then (match b s h with
      | .nx s h => mWhileN n c b s h
      | .ct s h => mWhileN n c b s h
      | .bk s h => .nx s h
      | .rt d h => .rt d h
      | .exc s c fs h => .exc s c fs h
      | .bad => .bad) else .nx s h
@[irreducible] def mWhile (c : MT) (b : MS) : MS := mWhileN wN c b
/-- what is walked: the items, and what must stay so while they are walked -/
abbrev MI := SD → HP → R (List D × (HP → Prop))
open Classical in
noncomputable def mLoop (G : HP → Prop) (g : MG) (b : MS) : List D → MS
  | [] => fun s h => if G h then .nx s h else .bad
  | d :: ds => fun s h => if G h then (match g d s with
      | none => .bad
      | some s => match b s h with
        | .nx s h => mLoop G g b ds s h
        | .ct s h => mLoop G g b ds s h
        | .bk s h => .nx s h
        | .rt d h => .rt d h
        | .exc s c fs h => .exc s c fs h
        | .bad => .bad) else .bad
noncomputable def mFor (it : MI) (g : MG) (b : MS) : MS := fun s h => (it s h).toS s fun x h => mLoop x.2 g b x.1 s h

section
variable {X : Cx} {W : WX} {a b c e : Expr} {st : Stmt} {es rest : List Expr} {sts : List Stmt} {ma mb mc : ME} {ta tb : MT} {t : MA} {pos pos' : Pos} {ms mt : MS}
abbrev QS (X : Cx) (W : WX) (st : Stmt) (m : MS) : Prop := PS X st (tS X.K X.mg W m)
abbrev QSs (X : Cx) (W : WX) (st : List Stmt) (m : MS) : Prop := PSs X st (tS X.K X.mg W m)

theorem qss_nil : QSs X W [] mNext := pss_nil.imp fun D0 σ H ⟨r, s, h, rp, rs, p⟩ => p.here rp rs
theorem qss_cons (h1 : QS X W st ms) (h2 : QSs X W sts mt) : QSs X W (st :: sts) (mSeq ms mt) := (pss_cons h1 h2).imp fun D0 σ H ⟨r, s, h, rp, rs, p⟩ => ⟨r, s, h, rp, rs, p.seq⟩
theorem qss_one (h1 : QS X W st ms) : QSs X W [st] ms := pss_one h1
theorem qs_pass : QS X W (.Pass pos) mNext := ps_pass.imp fun D0 σ H ⟨r, s, h, rp, rs, p⟩ => p.here rp rs
theorem qs_never : QS X W st mBad := ps_never.imp fun D0 σ H ⟨r, s, h, rp, rs, p⟩ => p.elim
theorem qs_break : QS X W (.Break pos) mBreak := ps_break.imp fun D0 σ H ⟨r, s, h, rp, rs, p⟩ => p r σ H (Ext.refl r) (Keep.refl H) rp rs
theorem qs_continue : QS X W (.Continue pos) mCont := ps_continue.imp fun D0 σ H ⟨r, s, h, rp, rs, p⟩ => p r σ H (Ext.refl r) (Keep.refl H) rp rs
theorem qs_set {i : Nat} {x : Str} (hN : X.N.Nodup) (ha : QE X W e ma) (hi : X.N[i]? = some x := by rfl) (hx : Loc X.env.scope x := by first | exact .inl rfl | exact .inr rfl) (hs : swapsWith e (some (.Name x pos')) pos.line X.env = pure false := by rfl)
    (hf : X.fn x = true ∨ X.env.scope.names.lookup x = some .local := by first | exact .inl rfl | exact .inr rfl) : QS X W (.Assign [.Name x pos'] e pos) (mSet i ma) :=
  (ps_set (i := i) hN hi hx ha hs hf).imp fun D0 σ H q => by
    obtain ⟨r, s, h, rp, rs, p⟩ := tS.ofE (rr := rD) (m := ma) (k := fun s d h => RS.nx (s.set i (some d)) h) q
    exact ⟨r, s, h, rp, rs, p.imp fun v H1 ⟨r1, s1, d, h1, rp1, rs1, rl1, p1⟩ => p1.here rp1 (rs1.set i rl1)⟩
theorem qs_drop (ha : QE X W e ma) (hs : swapsWith e none pos.line X.env = pure false := by rfl) : QS X W (.Expr e pos) (mDrop ma) := (ps_expr ha hs).imp fun D0 σ H q => by
  obtain ⟨r, s, h, rp, rs, p⟩ := tS.ofE (rr := rD) (m := ma) (k := fun s d h => RS.nx s h) q
  exact ⟨r, s, h, rp, rs, p.imp fun v H1 ⟨r1, s1, d, h1, rp1, rs1, rl1, p1⟩ => p1.here rp1 rs1⟩
theorem qs_ret (ha : QE X W e ma) : QS X W (.Return (some e) pos) (mRet ma) := (ps_ret ha).imp fun D0 σ H q => by
  obtain ⟨r, s, h, rp, rs, p⟩ := tS.ofE (rr := rD) (m := ma) (k := fun s d h => RS.rt d h) q
  exact ⟨r, s, h, rp, rs, p.imp fun v H1 ⟨r1, s1, d, h1, rp1, rs1, rl1, p1⟩ => p1 r1 v H1 (Ext.refl _) (Keep.refl _) rp1 rl1⟩
theorem qs_retN : QS X W (.Return none pos) mRetN := ps_retN.imp fun D0 σ H ⟨r, s, h, rp, rs, p⟩ => p r _ H (Ext.refl _) (Keep.refl _) rp .non
theorem qs_if {aa bb : List Stmt} (hc : QT X W c ta) (ha : QSs X W aa ms) (hb : QSs X W bb mt) : QS X W (.If c aa bb pos) (mIfS ta ms mt) := (ps_if hc ha hb).imp fun D0 σ H q => by
  obtain ⟨r, s, h, rp, rs, p⟩ := tS.ofE (rr := rB) (m := ta) (k := fun s x h => bif x then ms s h else mt s h) q
  refine ⟨r, s, h, rp, rs, p.imp fun v H1 ⟨r1, s1, d, h1, rp1, rs1, rl1, p1⟩ => ?_⟩
  cases rl1
  cases v with
  | true => exact ⟨r1, s1, h1, rp1, rs1, p1⟩
  | false => exact ⟨r1, s1, h1, rp1, rs1, p1⟩
theorem qs_aug {i : Nat} {x : Str} {op : Operator} {g : D → D → HP → Option (D × HP)} (hN : X.N.Nodup) (ho : OpR X (inplaceOp op) (rV2 X.K X.mg g)) (ha : QE X W e ma) (hi : X.N[i]? = some x := by rfl) (hx : Loc X.env.scope x := by first | exact .inl rfl | exact .inr rfl)
    (hf : X.fn x = true ∨ X.env.scope.names.lookup x = some .local := by first | exact .inl rfl | exact .inr rfl) : QS X W (.AugAssign (.Name x pos') op e pos) (mAug i g ma) :=
  (ps_aug (i := i) (ti := rV2 X.K X.mg g) hN hi hx ha ho hf).imp fun D0 σ H ⟨r, s, h, rp, rs, p⟩ => by
    unfold mAug at p
    cases q : s[i]? with
    | none => rw [q] at p; exact p.elim
    | some o =>
      cases o with
      | none => rw [q] at p; exact p.elim
      | some d =>
        rw [q] at p
        obtain ⟨v, e1, e2⟩ := rs.at' i d q
        refine ⟨v, e1, r, s, h, rp, rs, (PostS.ofE (rr := rD) rs p).imp fun y H1 ⟨r1, b, h1, x1, k1, rp1, rl1, p1⟩ => ?_⟩
        refine ⟨r1, d, b, h1, rp1, e2.mono x1 k1, rl1, ?_⟩
        have p2 := PostS.ofE (rr := rD) (rs.mono x1 k1) p1
        have p3 := p2.ofO
        cases z : g d b h1 with
        | none => rw [z] at p3; exact p3.elim
        | some w =>
          obtain ⟨d2, h2⟩ := w
          rw [z] at p3
          exact fun r3 v3 H3 x3 k3 rp3 rl3 => by
            obtain ⟨r4, a4, h4, x4, k4, rp4, rl4, p4⟩ := p3 r3 v3 H3 x3 k3 rp3 rl3
            exact p4.here rp4 (((rs.mono x1 k1).mono x4 k4).set i rl4)

/-! targets -/
theorem _root_.L2.PG.imp {X : Cx} {e : Expr} {t t' : TG} (h : PG X e t) (f : ∀ v σ H Q, t' v σ H Q → t v σ H Q) : PG X e t' := ⟨fun pins s σ H v u Q I r q => h.run pins s σ H v u Q I r (f v σ H Q q)⟩
theorem _root_.L2.PGs.imp {X : Cx} {e : List Expr} {t t' : TGs} (h : PGs X e t) (f : ∀ v σ H Q, t' v σ H Q → t v σ H Q) : PGs X e t' := ⟨fun pins s σ H v u Q I r q => h.run pins s σ H v u Q I r (f v σ H Q q)⟩
def PostG (K : PySem.W.Frag) (mg : Str → Option Value) (r : List Addr) (H : Hp) (Q : L2.St → Hp → Prop) (x : Option SD) : Prop := match x with
  | some s => ∀ σ, RelSt K mg r H s σ → Q σ H
  | none => False
def rG (K : PySem.W.Frag) (mg : Str → Option Value) (g : MG) : TG := fun v σ H Q => ∃ r s d, RelSt K mg r H s σ ∧ RelD K mg r H d v ∧ PostG K mg r H Q (g d s)
def rGs (K : PySem.W.Frag) (mg : Str → Option Value) (g : List D → SD → Option SD) : TGs := fun vs σ H Q => ∃ r s ds, RelSt K mg r H s σ ∧ RelDs K mg r H ds vs ∧ PostG K mg r H Q (g ds s)
abbrev QG (X : Cx) (tg : Expr) (g : MG) : Prop := PG X tg (rG X.K X.mg g)
abbrev QGs (X : Cx) (tg : List Expr) (g : List D → SD → Option SD) : Prop := PGs X tg (rGs X.K X.mg g)
theorem qg_name {i : Nat} {x : Str} (hN : X.N.Nodup) (hi : X.N[i]? = some x := by rfl) (hx : Loc X.env.scope x := by first | exact .inl rfl | exact .inr rfl) (hf : X.fn x = true ∨ X.env.scope.names.lookup x = some .local := by first | exact .inl rfl | exact .inr rfl) :
    QG X (.Name x pos) (gN i) := (pg_name (i := i) hN hi hx hf).imp fun v σ H Q ⟨r, s, d, rs, rl, p⟩ => p _ (rs.set i rl)
theorem qgs_nil : QGs X [] gNil := pgs_nil.imp fun vs σ H Q ⟨r, s, ds, rs, rl, p⟩ => by
  cases rl with
  | nil => exact ⟨rfl, p σ rs⟩
  | cons _ _ => exact p.elim
theorem qgs_cons {g : MG} {t : List D → SD → Option SD} (h1 : QG X e g) (h2 : QGs X es t) (hs : (assignEach (e :: es) X.env).map (·.2) = assign e X.env :: (assignEach es X.env).map (·.2) := by rfl) : QGs X (e :: es) (gCons g t) :=
  (pgs_cons h1 h2 hs).imp fun vs σ H Q ⟨r, s, ds, rs, rl, p⟩ => by
    cases rl with
    | nil => exact p.elim
    | @cons d v ds' vs' rl1 rl2 =>
      refine ⟨v, vs', rfl, r, s, d, rs, rl1, ?_⟩
      show PostG X.K X.mg r H _ (g d s)
      have p' : PostG X.K X.mg r H Q ((g d s).bind fun s => t ds' s) := p
      cases z : g d s with
      | none => rw [z] at p'; exact p'.elim
      | some s2 =>
        rw [z] at p'
        exact fun σ2 rs2 => ⟨r, s2, ds', rs2, rl2, p'⟩
theorem qg_tup {n : Nat} {k : Nat} {t : List D → SD → Option SD} (hc : X.calm = true) (h : QGs X es t) (hn : (assignEach es X.env).length = n := by rfl) (hst : (assignEach es X.env).findIdx? (·.1) = none := by rfl) : QG X (.Tuple es k pos) (PM.gTup n t) := by
  refine (pg_tup (k := k) hc h hn hst).imp fun v σ H Q ⟨r, s, d, rs, rl, p⟩ => ?_
  cases rl with
  | @tup ds a vs sq0 rls =>
    have sq := SqT.of (K := X.K) sq0
    have p' : PostG X.K X.mg r H Q (if ds.length = n then t ds s else none) := p
    by_cases e : ds.length = n
    · rw [if_pos e] at p'
      exact ⟨a, vs, rfl, sq, by rw [← rls.length]; exact e, r, s, ds, rs, rls, p'⟩
    · rw [if_neg e] at p'; exact p'.elim
  | @stp ds a vs sq0 rls =>
    have sq := sq0.sq
    have p' : PostG X.K X.mg r H Q (if ds.length = n then t ds s else none) := p
    by_cases e : ds.length = n
    · rw [if_pos e] at p'
      exact ⟨a, vs, rfl, sq, by rw [← rls.length]; exact e, r, s, ds, rs, rls, p'⟩
    · rw [if_neg e] at p'; exact p'.elim
  | _ => exact p.elim
theorem qs_asg {tg : Expr} {g : MG} (ha : QE X W e ma) (hg : QG X tg g) (hs : swapsWithSole [tg] e pos.line X.env = pure false := by rfl) (hw : swappedStores [tg] e X.env = pure none := by rfl)
    (h1 : (assignEach [tg] X.env).map (·.2) = [assign tg X.env] := by rfl) : QS X W (.Assign [tg] e pos) (mAsg g ma) := (ps_asg ha hg hs hw h1).imp fun D0 σ H q => by
  obtain ⟨r, s, h, rp, rs, p⟩ := tS.ofE (rr := rD) (m := ma) (k := fun s d h => ofS (g d s) h) q
  refine ⟨r, s, h, rp, rs, p.imp fun v H1 ⟨r1, s1, d, h1, rp1, rs1, rl1, p1⟩ => ⟨r1, s1, d, rs1, rl1, ?_⟩⟩
  cases z : g d s1 with
  | none => rw [z] at p1; exact p1.elim
  | some s2 =>
    rw [z] at p1
    exact fun σ2 rs2 => p1.here rp1 rs2

/-! while -/
theorem PostS.loop {r : List Addr} {H : Hp} {D0 : Ends} {x : RS} {k : MS} (p : PostS X.K X.mg W r H D0 (match x with
      | .nx s h => k s h
      | .ct s h => k s h
      | .bk s h => .nx s h
      | .rt d h => .rt d h
      | .exc s c fs h => .exc s c fs h
      | .bad => .bad)) (N : L2.St → Hp → Prop) (hN : ∀ σ H, tS X.K X.mg W k D0 σ H → N σ H) : PostS X.K X.mg W r H { D0 with nx := N, ct := N, bk := D0.nx } x := by
  cases x with
  | nx s' h' => exact fun r' σ' H' e' k' rp rs => hN _ _ ⟨r', s', h', rp, rs, PostS.mono p e' k'⟩
  | bk s' h' => exact p
  | ct s' h' => exact fun r' σ' H' e' k' rp rs => hN _ _ ⟨r', s', h', rp, rs, PostS.mono p e' k'⟩
  | rt d h' => exact p
  | exc s' c fs h' => exact p
  | bad => exact p
theorem qs_while {body : List Stmt} (hp : PassesOwn (model X.prog X.w) X.A X.env X.xe) (hc : QT X W c ta) (hb : QSs X W body ms) : QS X W (.While c body [] pos) (mWhile ta ms) :=
  (ps_while hp hc hb).imp fun D0 σ H q => by
    refine ⟨fun n σ H => tS X.K X.mg W (mWhileN n ta ms) D0 σ H, ⟨wN, by unfold mWhile at q; exact q⟩, fun n σ H w => ?_⟩
    cases n with
    | zero => obtain ⟨_, _, _, _, _, p⟩ := w; exact p.elim
    | succ n =>
      obtain ⟨r, s, h, rp, rs, p⟩ := w
      refine ⟨r, s, h, rp, rs, (PostS.ofE (rr := rB) rs p).imp fun v H1 ⟨r1, b, h1, e1, k1, rp1, rl1, p1⟩ => ?_⟩
      cases rl1
      cases v with
      | true =>
        refine ⟨fun σ H => tS X.K X.mg W (mWhileN n ta ms) D0 σ H, fun σ' H' q => ⟨n, Nat.lt_succ_self n, q⟩, r1, s, h1, rp1, rs.mono e1 k1, ?_⟩
        exact PostS.loop p1 _ fun _ _ q => q
      | false => exact PostS.here p1 rp1 (rs.mono e1 k1)

/-! for -/
/-- the walk J gives the items ds while G holds -/
def JRel (K : PySem.W.Frag) (mg : Str → Option Value) (r0 : List Addr) (H0 : Hp) (J : It) (ds : List D) (G : HP → Prop) : Prop :=
  ∀ (i : Nat) (r : List Addr) (H : Hp) (h : HP), Ext r0 r → Keep H0 H → Rep K mg r h H → G h →
    (∀ d, ds[i]? = some d → J.go i H ∧ ∀ x H', J.yld i H x H' → Keep H H' ∧ Rep K mg r h H' ∧ RelD K mg r H' d x) ∧ (ds.length ≤ i → J.stop i H)
def PostI (K : PySem.W.Frag) (mg : Str → Option Value) (W : WX) (r : List Addr) (σ : L2.St) (H : Hp) (Q : It → Hp → Prop) (x : R (List D × (HP → Prop))) : Prop := match x with
  | .ok y h' => ∀ r' H' J, Ext r r' → Keep H H' → Rep K mg r' h' H' → JRel K mg r' H' J y.1 y.2 → Q J H'
  | .exc c fs h' => ∀ r' cls dd H', Ext r r' → Keep H H' → Rep K mg r' h' H' → XRel K mg r' H' c fs cls dd → W cls dd σ H'
  | .bad => False
def rIt (K : PySem.W.Frag) (mg : Str → Option Value) (W : WX) (m : MI) : TI := fun σ H Q => ∃ r s h, Rep K mg r h H ∧ RelSt K mg r H s σ ∧ PostI K mg W r σ H Q (m s h)
abbrev QI (X : Cx) (W : WX) (tg e : Expr) (m : MI) : Prop := PI X tg e (rIt X.K X.mg W m)
theorem _root_.L2.PI.imp {X : Cx} {tg e : Expr} {t t' : TI} (h : PI X tg e t) (f : ∀ σ H Q, t' σ H Q → t σ H Q) : PI X tg e t' := ⟨fun pins s σ H Q I q => h.run pins s σ H Q I (f σ H Q q)⟩
theorem loop_stop (G : HP → Prop) (g : MG) (b : MS) {ds : List D} {i : Nat} (hi : ds.length ≤ i) : mLoop G g b (ds.drop i) = mLoop G g b [] := by
  rw [List.drop_eq_nil_of_le hi]
theorem for_gen {K : PySem.W.Frag} {mg : Str → Option Value} {J : It} {ds : List D} {G : HP → Prop} {g : MG} {b : MS} {D0 : Ends} {r0 : List Addr} {s : SD} {h : HP} {σ : L2.St} {H0 : Hp}
    (j : JRel K mg r0 H0 J ds G) (rp : Rep K mg r0 h H0) (rs : RelSt K mg r0 H0 s σ) (p : PostS K mg W r0 H0 D0 (mLoop G g b ds s h)) :
    ∃ Wn : Nat → Nat → L2.St → Hp → Prop, (∃ m, Wn 0 m σ H0) ∧ ∀ i m σ H, Wn i m σ H → (J.stop i H ∧ D0.nx σ H) ∨ (J.go i H ∧ ∃ N : L2.St → Hp → Prop, (∀ σ' H', N σ' H' → ∃ m', m' < m ∧ Wn (i + 1) m' σ' H') ∧
      ∀ x H', J.yld i H x H' → rG K mg g x σ H' fun σ2 H2 => tS K mg W b { D0 with nx := N, ct := N, bk := D0.nx } σ2 H2) := by
  refine ⟨fun i m σ H => m = ds.length - i ∧ ∃ r s h, Ext r0 r ∧ Keep H0 H ∧ Rep K mg r h H ∧ RelSt K mg r H s σ ∧ PostS K mg W r H D0 (mLoop G g b (ds.drop i) s h), ⟨ds.length, by simp, r0, s, h, Ext.refl _, Keep.refl _, rp, rs, by simpa using p⟩, ?_⟩
  rintro i m σ H ⟨rfl, r, s, h, e, k, rp, rs, p⟩
  rcases Nat.lt_or_ge i ds.length with hi | hi
  · rw [List.drop_eq_getElem_cons hi] at p
    unfold mLoop at p
    by_cases hG : G h
    · rw [if_pos hG] at p
      obtain ⟨j1, _⟩ := j i r H h e k rp hG
      obtain ⟨go, y⟩ := j1 _ (List.getElem?_eq_getElem hi)
      refine .inr ⟨go, fun σ' H' => ∃ r s h, Ext r0 r ∧ Keep H0 H' ∧ Rep K mg r h H' ∧ RelSt K mg r H' s σ' ∧ PostS K mg W r H' D0 (mLoop G g b (ds.drop (i + 1)) s h), fun σ' H' q => ⟨ds.length - (i + 1), by omega, rfl, q⟩, fun x H' yl => ?_⟩
      obtain ⟨k1, rp1, rl1⟩ := y x H' yl
      refine ⟨r, s, _, rs.mono (Ext.refl _) k1, rl1, ?_⟩
      cases z : g ds[i] s with
      | none => rw [z] at p; exact p.elim
      | some s2 =>
        rw [z] at p
        refine fun σ2 rs2 => ⟨r, s2, h, rp1, rs2, ?_⟩
        have p2 : PostS K mg W r H' D0 _ := p.mono (Ext.refl r) k1
        dsimp only at p2
        cases w : b s2 h with
        | nx s' h' => rw [w] at p2; exact fun r' σ' H'' e' k' rp' rs' => ⟨r', s', h', e.trans e', (k.trans k1).trans k', rp', rs', PostS.mono p2 e' k'⟩
        | ct s' h' => rw [w] at p2; exact fun r' σ' H'' e' k' rp' rs' => ⟨r', s', h', e.trans e', (k.trans k1).trans k', rp', rs', PostS.mono p2 e' k'⟩
        | bk s' h' => rw [w] at p2; exact p2
        | rt d h' => rw [w] at p2; exact p2
        | exc s' c fs h' => rw [w] at p2; exact p2
        | bad => rw [w] at p2; exact p2
    · rw [if_neg hG] at p; exact p.elim
  · rw [loop_stop G g b hi] at p
    unfold mLoop at p
    by_cases hG : G h
    · rw [if_pos hG] at p
      exact .inl ⟨(j i r H h e k rp hG).2 hi, p.here rp rs⟩
    · rw [if_neg hG] at p; exact p.elim
theorem qs_for {tg iter : Expr} {body : List Stmt} {mi : MI} {g : MG} (hp : PassesOwn (model X.prog X.w) X.A X.env X.xe) (hc : X.calm = true) (hi : QI X W tg iter mi) (hg : QG X tg g) (hb : QSs X W body ms)
    (hs : ∀ x, foldedSetIterable iter X.env x = pure x := by intro _; rfl) : QS X W (.For tg iter body [] pos) (mFor mi g ms) := (ps_for hp hc hi hg hb hs).imp fun D0 σ H ⟨r, s, h, rp, rs, p⟩ => by
  refine ⟨r, s, h, rp, rs, ?_⟩
  unfold mFor at p
  cases z : mi s h with
  | ok y h' =>
    rw [z] at p
    exact fun r' H' J e k rp' j => for_gen j rp' (rs.mono e k) (PostS.mono p e k)
  | exc c fs h' => rw [z] at p; exact fun r' cls dd H' e' k' rp' xr => p r' σ cls dd H' e' k' rp' (rs.mono e' k') xr
  | bad => rw [z] at p; exact p
end
end PM
end
section
set_option Elab.async false
set_option linter.all false
set_option maxRecDepth 100000
set_option maxHeartbeats 1000000
namespace PM
open PySem PySem.Spec PyProof.Rows L2

/-! ### defs -/
/-- what a def does: its body from the arguments -/
def runDef (n : Nat) (body : MS) : List D → HP → R D := fun ds h => match body (ds.map some ++ List.replicate (n - ds.length) none) h with
  | .nx _ h => .ok .non h
  | .rt d h => .ok d h
  | .exc _ c fs h => .exc c fs h
  | _ => .bad
def PostC (K : PySem.W.Frag) (mg : Str → Option Value) (r : List Addr) (H : Hp) (Q : VK) (E : XK) (x : R D) : Prop := match x with
  | .ok d h' => ∀ r' v H', Ext r r' → Keep H H' → Rep K mg r' h' H' → RelD K mg r' H' d v → Q v H'
  | .exc c fs h' => ∀ r' cls dd H', Ext r r' → Keep H H' → Rep K mg r' h' H' → XRel K mg r' H' c fs cls dd → E cls dd H'
  | .bad => False
def spM (K : PySem.W.Frag) (mg : Str → Option Value) (np : Nat) (m : List D → HP → R D) : Sp := fun vs H Q E => ∃ r ds h, Rep K mg r h H ∧ RelDs K mg r H ds vs ∧ ds.length = np ∧ PostC K mg r H Q E (m ds h)

theorem start_get {N : List Str} {vs : List V} {i : Nat} {v : V} (e : vs[i]? = some v) : (L2.start N vs)[i]? = some (some v) := by
  unfold L2.start
  have hi : i < vs.length := (List.getElem?_eq_some_iff.mp e).1
  rw [List.getElem?_append_left (by simpa using hi), List.getElem?_map, e]; rfl
theorem relSt_start {K : PySem.W.Frag} {mg : Str → Option Value} {r : List Addr} {H : Hp} {N : List Str} {ds : List D} {vs : List V} (rl : RelDs K mg r H ds vs) : RelSt K mg r H (ds.map some ++ List.replicate (N.length - ds.length) none) (L2.start N vs) := by
  have hl := rl.length
  refine ⟨by unfold L2.start; simp [hl], fun i d e => ?_⟩
  by_cases hi : i < ds.length
  · rw [List.getElem?_append_left (by simpa using hi), List.getElem?_map] at e
    cases z : ds[i]? with
    | none => rw [z] at e; cases e
    | some d' =>
      rw [z] at e; cases e
      obtain ⟨v, e1, q⟩ := rl.get z
      exact ⟨v, start_get e1, q⟩
  · rw [List.getElem?_append_right (by simpa using hi), List.getElem?_replicate] at e
    split at e <;> cases e
/-- THE RULE of a def -/
theorem def_ok {P : Program} {w : World} {K : PySem.W.Frag} {mg : Str → Option Value} {base : Heap} {x qual : Str} {st : Stmt} {f : Addr} {fd : FuncData} {N ps : List Str} {k : Nat} {body : MS} (F : Fun K x qual st f fd) (S : FnScope N ps (defScope st))
    (hb : ∀ (cdv : Value) (A : Around) (outer : List Env) (s : Shared) (H : Hp) (E : XK), Room k (A.deeper (envOfC qual (defScope st) s.heap.objs.size f cdv)) →
      QSs (cxOf (L2.CX P w) P w K mg base N qual (defScope st) f cdv A outer s H E) (fun cls d _ H => E cls d H) (defBody st) body) :
    FnOk P w K mg base (L2.CX P w) (k + 1) f fd ps (spM K mg ps.length (runDef N.length body)) := by
  refine F.okX S (fun vs H Q E ⟨r, ds, h, rp, rl, hl, p⟩ => by rw [← rl.length]; exact hl) (fun cdv A outer s H vs Q E hr ⟨r, ds, h, rp, rl, hl, p⟩ => ?_)
  refine ⟨_, hb cdv A outer s H E hr, r, _, h, rp, relSt_start (N := N) rl, ?_⟩
  unfold runDef at p
  show PostS K mg _ r H _ (body (ds.map some ++ List.replicate (N.length - ds.length) none) h)
  cases z : body (ds.map some ++ List.replicate (N.length - ds.length) none) h with
  | nx s' h' => rw [z] at p; exact fun r' σ' H' e k rp' rs' => p r' .non H' e k rp' .non
  | rt d h' => rw [z] at p; exact fun r' v H' e k rp' rl' => p r' v H' e k rp' rl'
  | bk s' h' => rw [z] at p; exact p.elim
  | ct s' h' => rw [z] at p; exact p.elim
  | exc s' c fs h' => rw [z] at p; exact fun r' σ' cls dd H' e k rp' rs' xr => p r' cls dd H' e k rp' xr
  | bad => rw [z] at p; exact p.elim

theorem FnOk.sp {P : Program} {w : World} {K : PySem.W.Frag} {mg : Str → Option Value} {base : Heap} {CX : CXT} {k : Nat} {f : Addr} {fd : FuncData} {ps : List Str} {np : Nat} {m m' : List D → HP → R D} (F : FnOk P w K mg base CX k f fd ps (spM K mg np m))
    (e : ∀ ds h, ds.length = np → m' ds h = .bad ∨ m ds h = m' ds h) : FnOk P w K mg base CX k f fd ps (spM K mg np m') := F.imp fun vs H Q E ⟨r, ds, h, rp, rl, hl, p⟩ => ⟨r, ds, h, rp, rl, hl, by
  rcases e ds h hl with z | z
  · rw [z] at p; exact p.elim
  · rw [z]; exact p⟩

section
variable {X : Cx} {W : WX} {a b c e o : Expr} {st : Stmt} {es rest : List Expr} {sts : List Stmt} {ma mb mc : ME} {ta tb : MT} {t : MA} {pos pos' apos : Pos} {ms mt : MS}
variable {k : Nat} {f C : Addr} {fd : FuncData} {ps : List Str} {np : Nat} {m : List D → HP → R D} {x : Str} {p : Pos}
theorem callPost {K : PySem.W.Frag} {mg : Str → Option Value} {r : List Addr} {H : Hp} {σ : L2.St} {Q : VK} {x : R D} (p : Post K mg rD W r σ H Q x) : PostC K mg r H Q (fun cls d H => W cls d σ H) x := by
  cases x with
  | ok a h => exact p
  | exc c fs h => exact p
  | bad => exact p
theorem qe_call (F : FnOk X.prog X.w X.K X.mg X.base (L2.CX X.prog X.w) k f fd ps (spM X.K X.mg np m)) (hnp : np = (e :: es).length) (tk : Takes X W) (hr : Room k X.A) (hg : Gl X x) (hm : X.mg x = some (.ref f)) (hk : PySem.W.keepIn X.K (.ref f) = true) (hb : Binds X.K fd ps [])
    (ha : QA X W (e :: es) t) (ht : ∀ s h ds h', t s h = .ok ds h' → ds.length = (e :: es).length) (hdb : (x == ("__debug__" : Str)) = false := by decide) (he : starEach (e :: es) X.env = (false, eval e X.env) :: starEach es X.env := by rfl) (hpl : (backTo pos (starEach es X.env)).any (·.1) = false := by rfl) :
    QE X W (.Call (.Name x p) (e :: es) [] pos) (mCall m t) := (pe_callS F hr hg hm hk hb (fun σ => passAt tk σ) ha hdb he hpl).imp fun σ H Q q => by
  obtain ⟨r, s, h, rp, rs, p⟩ := q
  refine ⟨r, s, h, rp, rs, ?_⟩
  unfold mCall at p
  cases z : t s h with
  | ok ds h' =>
    rw [z] at p
    have hl := ht s h ds h' z
    exact fun r' vs H' e' k' rp' rl' => ⟨r', ds, h', rp', rl', by rw [hnp]; exact hl, callPost (Post.mono p e' k')⟩
  | exc c fs h' => rw [z] at p; exact p
  | bad => rw [z] at p; exact p.elim
theorem qe_call0 (F : FnOk X.prog X.w X.K X.mg X.base (L2.CX X.prog X.w) k f fd ps (spM X.K X.mg 0 m)) (tk : Takes X W) (hr : Room k X.A) (hg : Gl X x) (hm : X.mg x = some (.ref f)) (hk : PySem.W.keepIn X.K (.ref f) = true) (hb : Binds X.K fd ps [])
    (hdb : (x == ("__debug__" : Str)) = false := by decide) : QE X W (.Call (.Name x p) [] [] pos) (mCall m mNil) := by
  refine ⟨fun pins s σ H Q I q => ?_⟩
  refine wpAny_Call_Name_kw (ld_glob I hg hm ?_ hdb)
  obtain ⟨r, s0, h, rp, rs, p⟩ := q
  exact PySem.W.callWith_K0 I.kIn hk (run_fnS (us := []) (vs := []) (E := WE W) F hr hb (passAt tk σ) I .nil ⟨r, [], h, rp, .nil, rfl, callPost p⟩)
theorem len_nil : ∀ s h ds h', mNil s h = .ok ds h' → ds.length = 0 := fun s h ds h' e => by cases e; rfl
theorem len_cons {t : MA} {n : Nat} (q : ∀ s h ds h', t s h = .ok ds h' → ds.length = n) : ∀ s h ds h', mCons ma t s h = .ok ds h' → ds.length = n + 1 := fun s h ds h' e => by
  unfold mCons at e
  cases z : ma s h with
  | ok d h1 =>
    rw [z] at e
    have e : (t s h1).bind (fun xs h => R.ok (d :: xs) h) = .ok ds h' := e
    cases z2 : t s h1 with
    | ok xs h2 =>
      rw [z2] at e
      have e : R.ok (d :: xs) _ = .ok ds h' := e
      cases e
      rw [List.length_cons, q _ _ _ _ z2]
    | exc c fs h2 => rw [z2] at e; cases e
    | bad => rw [z2] at e; cases e
  | exc c fs h2 => rw [z] at e; cases e
  | bad => rw [z] at e; cases e

/-! ### what is walked -/
def itL : D → HP → R (List D × (HP → Prop)) := fun d h => match d with
  | .ref i => match h[i]? with
    | some (.lst xs) => .ok (xs, fun h => h[i]? = some (.lst xs)) h
    | some (.rdl xs) => .ok (xs, fun h => h[i]? = some (.rdl xs)) h
    | _ => .bad
  | _ => .bad
def iL (a : ME) : MI := fun s h => (a s h).bind itL
def itT : D → HP → R (List D × (HP → Prop)) := fun d h => match d with
  | .tup xs => .ok (xs, fun _ => True) h
  | .stp xs => .ok (xs, fun _ => True) h
  | _ => .bad
def iT (a : ME) : MI := fun s h => (a s h).bind itT
def itS : D → HP → R (List D × (HP → Prop)) := fun d h => match d with
  | .str x => .ok (x.cps.toList.map fun c => .str ⟨#[c]⟩, fun _ => True) h
  | _ => .bad
def iS (a : ME) : MI := fun s h => (a s h).bind itS
def itR1 : List D → HP → R (List D × (HP → Prop)) := fun ds h => match ds with
  | [.int n] => if -(2 ^ 62) ≤ n ∧ n < 2 ^ 62 then .ok ((List.range n.toNat).map fun (i : Nat) => .int (0 + i), fun _ => True) h else .bad
  | _ => .bad
def itR2 : List D → HP → R (List D × (HP → Prop)) := fun ds h => match ds with
  | [.int lo, .int hi] => if -(2 ^ 62) ≤ lo ∧ lo < 2 ^ 62 ∧ -(2 ^ 62) ≤ hi ∧ hi < 2 ^ 62 then .ok ((List.range (hi - lo).toNat).map fun (i : Nat) => .int (lo + i), fun _ => True) h else .bad
  | _ => .bad
def iR1 (a : MA) : MI := fun s h => (a s h).bind itR1
def iR2 (a : MA) : MI := fun s h => (a s h).bind itR2

theorem rIt.bind {α β : Type} {rr : RR α β} {K : PySem.W.Frag} {mg : Str → Option Value} {m : SD → HP → R α} {f : α → HP → R (List D × (HP → Prop))} {σ : L2.St} {H : Hp} {Q : It → Hp → Prop} (q : rIt K mg W (fun s h => (m s h).bind f) σ H Q) :
    tM K mg rr W m σ H (fun b H1 => ∃ r1 s a h1, Rep K mg r1 h1 H1 ∧ RelSt K mg r1 H1 s σ ∧ rr.rel K mg r1 H1 a b ∧ PostI K mg W r1 σ H1 Q (f a h1)) := by
  obtain ⟨r, s, h, rp, rs, p⟩ := q
  refine ⟨r, s, h, rp, rs, ?_⟩
  dsimp only at p
  cases z : m s h with
  | ok a h' =>
    rw [z] at p
    intro r' b H' e k rp' rl'
    refine ⟨r', s, a, h', rp', rs.mono e k, rl', ?_⟩
    have p : PostI K mg W r σ H Q (f a h') := p
    cases y : f a h' with
    | ok u h2 => rw [y] at p; exact fun r2 H2 J e2 k2 => p r2 H2 J (e.trans e2) (k.trans k2)
    | exc c fs h2 => rw [y] at p; exact fun r2 cls dd H2 e2 k2 => p r2 cls dd H2 (e.trans e2) (k.trans k2)
    | bad => rw [y] at p; exact p.elim
  | exc c fs h' => rw [z] at p; exact p
  | bad => rw [z] at p; exact p.elim

theorem sqL_lift {K : PySem.W.Frag} {H : Hp} {ad : Addr} {vs : List V} (q : (∃ ob, H ad = some (.frz ob (.lst vs))) ∨ SqL K (fun _ => none) ad vs) : SqL K H ad vs := by
  rcases q with ⟨ob, q⟩ | (q | ⟨ob, q⟩) | q
  · exact .inl (.inr ⟨ob, q⟩)
  · cases q
  · cases q
  · exact .inr q
/-- a list as it is read -/
theorem list_at {K : PySem.W.Frag} {mg : Str → Option Value} {r : List Addr} {h : HP} {H : Hp} {i : Nat} {ad : Addr} {xs : List D} (rp : Rep K mg r h H) (ea : r[i]? = some ad) (e : h[i]? = some (.lst xs) ∨ h[i]? = some (.rdl xs)) : ∃ vs, SqL K H ad vs ∧ RelDs K mg r H xs vs := by
  rcases e with e | e
  · obtain ⟨vs, q, rl⟩ := rp.obs i _ ad e ea
    exact ⟨vs, SqL.of q, rl⟩
  · obtain ⟨vs, q, rl⟩ := rp.obs i _ ad e ea
    exact ⟨vs, sqL_lift q, rl⟩
theorem jrel_list {K : PySem.W.Frag} {mg : Str → Option Value} {r0 : List Addr} {H0 : Hp} {i : Nat} {ad : Addr} {xs : List D} {G : HP → Prop} (ea : r0[i]? = some ad) (hG : ∀ h, G h → h[i]? = some (.lst xs) ∨ h[i]? = some (.rdl xs)) : JRel K mg r0 H0 (Itl K ad) xs G := by
  intro j r H h e k rp g
  obtain ⟨vs, sq, rl⟩ := list_at rp (e.get ea) (hG h g)
  refine ⟨fun d hd => ?_, fun hj => ⟨vs, sq, by rw [← rl.length]; exact hj⟩⟩
  obtain ⟨v, hv, rv⟩ := rl.get hd
  exact ⟨⟨vs, v, sq, hv⟩, fun y H' ⟨e1, e2⟩ => by subst e1; have := e2 vs sq; rw [hv] at this; cases this; exact ⟨Keep.refl _, rp, rv⟩⟩
theorem qi_list {tg : Expr} (ha : QE X W e ma) : QI X W tg e (iL ma) := (pi_list ha).imp fun σ H Q q => by
  obtain ⟨r, s, h, rp, rs, p⟩ := rIt.bind (rr := rD) (m := ma) (f := itL) q
  refine ⟨r, s, h, rp, rs, p.imp fun v H1 ⟨r1, s1, d, h1, rp1, rs1, rl1, p1⟩ => ?_⟩
  unfold itL at p1
  cases rl1 with
  | @ref i ad ea =>
    dsimp only at p1
    split at p1
    · rename_i xs hx
      obtain ⟨vs, sq, rl⟩ := list_at rp1 ea (.inl hx)
      exact ⟨ad, rfl, ⟨vs, sq⟩, p1 r1 H1 _ (Ext.refl _) (Keep.refl _) rp1 (jrel_list ea fun h g => .inl g)⟩
    · rename_i xs hx
      obtain ⟨vs, sq, rl⟩ := list_at rp1 ea (.inr hx)
      exact ⟨ad, rfl, ⟨vs, sq⟩, p1 r1 H1 _ (Ext.refl _) (Keep.refl _) rp1 (jrel_list ea fun h g => .inr g)⟩
    · exact p1.elim
  | _ => exact p1.elim
theorem qi_tup {tg : Expr} (ha : QE X W e ma) : QI X W tg e (iT ma) := (pi_tup ha).imp fun σ H Q q => by
  obtain ⟨r, s, h, rp, rs, p⟩ := rIt.bind (rr := rD) (m := ma) (f := itT) q
  refine ⟨r, s, h, rp, rs, p.imp fun v H1 ⟨r1, s1, d, h1, rp1, rs1, rl1, p1⟩ => ?_⟩
  unfold itT at p1
  cases rl1 with
  | @tup xs ad vs sq0 rl =>
    have sq := SqT.of (K := X.K) sq0
    refine ⟨ad, rfl, ⟨vs, sq⟩, p1 r1 H1 _ (Ext.refl _) (Keep.refl _) rp1 ?_⟩
    intro j r H h e k rp g
    refine ⟨fun d hd => ?_, fun hj => ⟨vs, k.sqT sq, by rw [← rl.length]; exact hj⟩⟩
    obtain ⟨v, hv, rv⟩ := rl.get hd
    exact ⟨⟨vs, v, k.sqT sq, hv⟩, fun y H' ⟨e1, e2⟩ => by subst e1; have := e2 vs (k.sqT sq); rw [hv] at this; cases this; exact ⟨Keep.refl _, rp, rv.mono e k⟩⟩
  | @stp xs ad vs sq0 rl =>
    have sq := sq0.sq
    refine ⟨ad, rfl, ⟨vs, sq⟩, p1 r1 H1 _ (Ext.refl _) (Keep.refl _) rp1 ?_⟩
    intro j r H h e k rp g
    refine ⟨fun d hd => ?_, fun hj => ⟨vs, k.sqT sq, by rw [← rl.length]; exact hj⟩⟩
    obtain ⟨v, hv, rv⟩ := rl.get hd
    exact ⟨⟨vs, v, k.sqT sq, hv⟩, fun y H' ⟨e1, e2⟩ => by subst e1; have := e2 vs (k.sqT sq); rw [hv] at this; cases this; exact ⟨Keep.refl _, rp, rv.mono e k⟩⟩
  | _ => exact p1.elim
theorem qi_str {tg : Expr} (ha : QE X W e ma) : QI X W tg e (iS ma) := (pi_str ha).imp fun σ H Q q => by
  obtain ⟨r, s, h, rp, rs, p⟩ := rIt.bind (rr := rD) (m := ma) (f := itS) q
  refine ⟨r, s, h, rp, rs, p.imp fun v H1 ⟨r1, s1, d, h1, rp1, rs1, rl1, p1⟩ => ?_⟩
  unfold itS at p1
  cases rl1 with
  | str z =>
    refine ⟨z, rfl, p1 r1 H1 _ (Ext.refl _) (Keep.refl _) rp1 ?_⟩
    intro j r H h e k rp g
    refine ⟨fun d hd => ?_, fun hj => ?_⟩
    · rw [List.getElem?_map, Array.getElem?_toList] at hd
      cases q : z.cps[j]? with
      | none => rw [q] at hd; cases hd
      | some c =>
        rw [q] at hd; cases hd
        have hj : j < z.cps.size := (Array.getElem?_eq_some_iff.mp q).1
        exact ⟨hj, fun y H' ⟨e1, c', e2, e3⟩ => by subst e1; rw [q] at e2; cases e2; subst e3; exact ⟨Keep.refl _, rp, .str _⟩⟩
    · show z.cps.size ≤ j
      simpa using hj
  | _ => exact p1.elim
theorem jrel_range {K : PySem.W.Frag} {mg : Str → Option Value} {r0 : List Addr} {H0 : Hp} {lo : Int} {n : Nat} : JRel K mg r0 H0 (Itr lo n) ((List.range n).map fun (i : Nat) => D.int (lo + i)) (fun _ => True) := by
  intro j r H h e k rp g
  refine ⟨fun d hd => ?_, fun hj => by show n ≤ j; simpa using hj⟩
  have hj : j < n := by
    have := (List.getElem?_eq_some_iff.mp hd).1
    simpa using this
  rw [List.getElem?_map, List.getElem?_range hj] at hd
  cases hd
  exact ⟨hj, fun y H' ⟨e1, e2⟩ => by subst e1; subst e2; exact ⟨Keep.refl _, rp, .int _⟩⟩
theorem qi_range1 {tg : Expr} {q0 : Pos} (hg : Gl X "range") (hm : X.mg "range" = none) (ha : QA X W [e] t) (hs : starEach [e] X.env = [(false, eval e X.env)] := by rfl) : QI X W tg (.Call (.Name "range" q0) [e] [] pos) (iR1 t) := (pi_range1 hg hm ha hs).imp fun σ H Q q => by
  obtain ⟨r, s, h, rp, rs, p⟩ := rIt.bind (rr := rDs) (m := t) (f := itR1) q
  refine ⟨r, s, h, rp, rs, p.imp fun v H1 ⟨r1, s1, ds, h1, rp1, rs1, rl1, p1⟩ => ?_⟩
  unfold itR1 at p1
  split at p1
  · rename_i n
    by_cases hn : -(2 ^ 62) ≤ n ∧ n < 2 ^ 62
    · rw [if_pos hn] at p1
      cases rl1 with
      | cons a b =>
        cases b
        cases a
        exact ⟨n, rfl, hn.1, hn.2, p1 r1 H1 _ (Ext.refl _) (Keep.refl _) rp1 jrel_range⟩
    · rw [if_neg hn] at p1; exact p1.elim
  · exact p1.elim
theorem qi_range2 {tg : Expr} {q0 : Pos} (hg : Gl X "range") (hm : X.mg "range" = none) (ha : QA X W [e, a] t) (hs : starEach [e, a] X.env = [(false, eval e X.env), (false, eval a X.env)] := by rfl) (hs2 : starEach [a] X.env = [(false, eval a X.env)] := by rfl) : QI X W tg (.Call (.Name "range" q0) [e, a] [] pos) (iR2 t) := (pi_range2 hg hm ha hs hs2).imp fun σ H Q q => by
  obtain ⟨r, s, h, rp, rs, p⟩ := rIt.bind (rr := rDs) (m := t) (f := itR2) q
  refine ⟨r, s, h, rp, rs, p.imp fun v H1 ⟨r1, s1, ds, h1, rp1, rs1, rl1, p1⟩ => ?_⟩
  unfold itR2 at p1
  split at p1
  · rename_i lo hi
    by_cases hn : -(2 ^ 62) ≤ lo ∧ lo < 2 ^ 62 ∧ -(2 ^ 62) ≤ hi ∧ hi < 2 ^ 62
    · rw [if_pos hn] at p1
      cases rl1 with
      | cons a b =>
        cases b with
        | cons b c =>
          cases c
          cases a
          cases b
          exact ⟨lo, hi, rfl, hn, p1 r1 H1 _ (Ext.refl _) (Keep.refl _) rp1 jrel_range⟩
    · rw [if_neg hn] at p1; exact p1.elim
  · exact p1.elim
end
end PM
end
section
set_option Elab.async false
set_option linter.all false
set_option maxRecDepth 100000
set_option maxHeartbeats 1000000
namespace PM
open PySem PySem.Spec PyProof.Rows L2

/-! ### enumerate(list, start = k) -/
/-- as Ite, the count from k -/
def ItF (K : PySem.W.Frag) (a : Addr) (k : Int) : It :=
  ⟨fun i H => ∃ (xs : List V) (x : V), SqL K H a xs ∧ xs[i]? = some x, fun i H v H' => ∃ T x, v = .ref T ∧ H T = none ∧ H' = upd H T (.tup [.int (k + (i : Int)), x]) ∧ ∀ xs, SqL K H a xs → xs[i]? = some x, fun i H => ∃ xs : List V, SqL K H a xs ∧ xs.length ≤ i⟩
theorem turn_enumF {P : Program} {w : World} {K : PySem.W.Frag} {elts : List Expr} {kk : Nat} {tpos : Pos} (a e it : Addr) (k : Int) :
    Turn P w K (.Tuple elts kk tpos) (ItF K a k) [e, it] e (fun i h => (∃ old, IsEnum h e it (k + ((i : Nat) : Int)) old) ∧ h.IsListIter it a i ∧ e ≠ it) where
  mem := List.mem_cons_self
  obj := fun i h st b hb => by
    obtain ⟨⟨old, he⟩, ⟨o, ho, _, hd⟩, _⟩ := st
    rcases List.mem_cons.mp hb with z | z
    · subst z; exact ⟨_, he, fun v q => nomatch q⟩
    · rw [List.mem_singleton.mp z]; exact ⟨o, ho, fun v q => by rw [hd] at q; cases q⟩
  keep := fun i h h' st kp => ⟨let ⟨old, he⟩ := st.1; ⟨old, kp e (by simp) _ he⟩, st.2.1.at fun o q => kp it (by simp) o q, st.2.2⟩
  item := by
    intro X hP hw hK hc i pins s σ H E I hf st hg
    subst hP hw hK
    obtain ⟨⟨old, he⟩, hit, hne⟩ := st
    obtain ⟨xs, x, hq, hx⟩ := hg
    obtain ⟨its, rv, pl, hz⟩ := I.list hq
    obtain ⟨u, hu, ru⟩ := rv.get hx
    have hel : e < s.heap.objs.size := Heap.lt_size he
    have hil : it < s.heap.objs.size := by obtain ⟨_, q, _⟩ := hit; exact Heap.lt_size q
    have hai : a ≠ it := fun z => by
      obtain ⟨o, ho, hcc, hd⟩ := hit
      obtain ⟨o2, ho2, hcc2, n2, hd2⟩ := pl.isList
      rw [z, ho] at ho2; cases ho2; rw [hd] at hd2; cases hd2
    have hae : e ∉ [it, a] := fun hm => by
      rcases List.mem_cons.mp hm with z | z
      · exact hne z
      · obtain ⟨o2, ho2, hcc2, n2, hd2⟩ := pl.isList
        have z := List.mem_singleton.mp z
        have he2 : s.heap.get? a = some _ := z ▸ he
        rw [he2] at ho2; cases ho2; cases hd2
    have hlt : i < its.toArray.size := by
      have := (List.getElem?_eq_some_iff.mp hu).1
      simpa using this
    refine wpAny_pyNext_enum_itemC (Draws.list (A := X.A.in1) (I.ok.hd hc) it a hai its.toArray) he ⟨hit, pl.isList⟩ hlt hne hae fun x' h' tk hP ho hit' hT hsz hk => ?_
    have ex : x' = u := by
      have hP' : its.toArray[i]? = some x' := hP
      rw [List.getElem?_toArray, hu] at hP'
      exact (Option.some.inj hP').symm
    subst ex
    refine ⟨_, rfl, wpAny_letOwnedTupleGo_enum (s := { s with heap := h', toks := tk + 1 }) ho fun h2 he' sb => ?_⟩
    have hT2 : h2.get? s.heap.objs.size = some { cls := .type "tuple", data := .seq #[.int (k + (i : Int)) tk, x'] } := (sb.2 _ (Nat.ne_of_gt hel)).trans hT
    have new : ObjOk X.prog X.w (upd H s.heap.objs.size (.tup [.int (k + (i : Int)), x])) h2 s.heap.objs.size (.tup [.int (k + (i : Int)), x]) :=
      ⟨line_of (by show 2 ≤ 1000000; decide), [.int (k + (i : Int)) tk, x'], .cons ⟨tk, rfl⟩ (.cons ru .nil), ⟨_, hT2, rfl, _, rfl⟩⟩
    have I1 : Inv X pins σ (upd H s.heap.objs.size (.tup [.int (k + (i : Int)), x])) { s with heap := h2, toks := tk + 1 } :=
      I.turnedNew (ch := [e, it]) (fun b ob hb q => (sb.2 b fun z => hb (z ▸ List.mem_cons_self)).trans (hk b ob (fun z => hb (z ▸ List.mem_cons_self)) (fun z => hb (z ▸ List.mem_cons_of_mem _ List.mem_cons_self)) q)) hf (Nat.le_refl _) new
    refine ⟨.ref s.heap.objs.size, _, I1, rfl, ⟨_, x, rfl, I.hok.fresh (Nat.le_refl _), rfl, fun ys hy => by rw [I.list_inj hy hq]; exact hx⟩, ⟨⟨x', ?_⟩, hit'.1.at fun o q => (sb.2 it hne.symm).trans q, hne⟩, fun b hb => ?_⟩
    · have e1 : k + ((i + 1 : Nat) : Int) = k + (i : Int) + 1 := by omega
      rw [e1]; exact he'
    · have hb' : b < s.heap.objs.size := by
        rcases List.mem_cons.mp hb with z | z
        · subst z; exact hel
        · rw [List.mem_singleton.mp z]; exact hil
      rw [upd_ne (Nat.ne_of_lt hb')]
      exact (hf b hb).1
  done := by
    intro X hP hw hK hc i pins s σ H E I hf st hg
    subst hP hw hK
    obtain ⟨⟨old, he⟩, hit, hne⟩ := st
    obtain ⟨xs, hq, hx⟩ := hg
    obtain ⟨its, rv, pl, hz⟩ := I.list hq
    obtain ⟨f0, f1, f2, f3, f4, f5⟩ := hf it (by simp)
    have hl := rv.length
    have hT : s.TypeIs (.ref e) "enumerate" := ⟨_, he, rfl⟩
    unfold pyNext
    refine wpAny_bind (wpAny_attempt (wpAny_callSpecial?_slot (name := Str.ofString "__next__") hT F.slot_enumerate_next
      (wpAny_call_entry F.slot_enumerate_next hT F.entry_enumerate_next ?_ (F.args_enumerate_next_1 _))))
    show wpAny _ _ (field (.ref e) 2 >>= _) _ _ _
    refine wpAny_bind (wpAny_field he rfl (x := .ref it) rfl ?_)
    refine wpAny_bind (wpAny_nextOf_list_end (A := X.A.in1) (I.ok.hd hc) hit pl.isList (by simp; omega) fun h' x eb hx' => ?_)
    obtain ⟨o, ho, hcl⟩ := hx'
    refine wpAny_bind (wpAny_isInstance (T := "StopIteration") (b := true) ⟨o, ho, hcl⟩ isSubtype_stop ?_)
    exact wpAny_pure ⟨rfl, I.turned (t' := s.toks) (fun b o hb q => eb b o hb q) f0 f1 f3 f4 f5⟩
  self := fun A i s Q E st h => let ⟨⟨_, he⟩, _⟩ := st; wpAny_pyIter_enum he h
theorem callWith_tyKw {M : Model} {A : Around} {E : Value → Shared → Prop} {s : Shared} {pos : Pos} {T : String} {first : List Value} {args : List (Bool × Sem Value)} {kws : List (Option Str × Sem Value)} {Q : Value → Shared → Prop}
    (h1 : args.any (·.1) = false) (h2 : kws.any (·.1.isNone) = false) (h : wpAny M A (evalArgs (.type T) true args kws) (fun a s1 => wpAny M A (call (.type T) (first ++ a.pos) a.kw) Q E s1) E s) : wpAny M A (callWith pos (.type T) first args kws) Q E s := by
  unfold callWith
  refine wpAny_bind (wpAny_holding (wpAny_mono h (fun a s1 q => wpAny_bind (wpAny_standAt ?_)) fun _ _ x => x))
  simp only [h1, h2, Bool.or_false]
  refine wpAny_bind (wpAny_pure ?_)
  exact wpAny_bind (wpAny_mono q (fun r s2 hr => wpAny_bind (wpAny_holding (wpAny_point (wpAny_pure hr)))) fun _ _ x => x)
def iEnumF (K : PySem.W.Frag) (k : Int) (ta : TA) : TI := fun σ H R => ta σ H fun vs H1 => ∃ a xs, vs = [.ref a] ∧ SqL K H1 a xs ∧ R (ItF K a k) H1
theorem pi_enumF {X : Cx} {e : Expr} {ta : TA} {p pos tpos kp cp : Pos} {elts : List Expr} {kk : Nat} {k : Int} {j} (hk0 : -(2 ^ 63) ≤ k) (hk1 : k < 2 ^ 63) (hg : Gl X "enumerate") (hm : X.mg "enumerate" = none) (ha : PA X [e] ta)
    (hs : starEach [e] X.env = [(false, eval e X.env)] := by rfl) :
    PI X (.Tuple elts kk tpos) (.Call (.Name "enumerate" p) [e] [⟨some "start", .Constant (.int k) j cp, kp⟩] pos) (iEnumF X.K k ta) := by
  refine ⟨fun pins s σ H R I h => ?_⟩
  refine wpAny_Call_Name_kw (ld_blt I hg hm boot_enumerate ?_)
  have hA := ha.run pos pins s σ H _ I h
  rw [hs] at hA ⊢
  refine callWith_tyKw (by rfl) (by rfl) (evalArgs_kwB (by rfl) (thn hA fun us s1 ⟨vs, H1, I1, r1, a, xs, ex, hq, q⟩ => kws_cons (wpAny_Constant_int (kws_nil ?_))))
  subst ex
  cases r1 with
  | cons r rr =>
    cases rr
    cases r
    have I1' : Inv X pins σ H1 { s1 with toks := s1.toks + 1 } := I1.tok _
    obtain ⟨its, rv, p', hz⟩ := I1'.list hq
    refine enum_begins_start (begins_list a its.toArray) p'.isList hk0 hk1 fun h' he hit hsz hk => wpAny_pyIter_enum he ?_
    have I2 : Inv X pins σ H1 { s1 with heap := h', toks := s1.toks + 1 } := I1'.kept (t' := s1.toks + 1) hk
    refine ⟨s1.heap.objs.size + 1, [s1.heap.objs.size + 1, s1.heap.objs.size], _, _, H1, rfl, I2, turn_enumF a (s1.heap.objs.size + 1) s1.heap.objs.size k, ⟨⟨.none, by simpa using he⟩, ⟨_, hit, rfl, rfl⟩, Nat.succ_ne_self _⟩, fun b hb => ?_, q⟩
    have hle : s1.heap.objs.size ≤ b := by
      rcases List.mem_cons.mp hb with z | z
      · rw [z]; exact Nat.le_succ _
      · rw [List.mem_singleton.mp z]; exact Nat.le_refl _
    exact I1.fpOk hle (I1.hok.fresh hle)

/-! the plain layer's -/
def enumDs (k : Int) (xs : List D) : List D := xs.mapIdx fun i d => .tup [.int (k + (i : Int)), d]
def itE (k : Int) : List D → HP → R (List D × (HP → Prop)) := fun ds h => match ds with
  | [.ref i] => match h[i]? with
    | some (.lst xs) => .ok (enumDs k xs, fun h => h[i]? = some (.lst xs)) h
    | some (.rdl xs) => .ok (enumDs k xs, fun h => h[i]? = some (.rdl xs)) h
    | _ => .bad
  | _ => .bad
def iE (k : Int) (a : MA) : MI := fun s h => (a s h).bind (itE k)
theorem jrel_enum {K : PySem.W.Frag} {mg : Str → Option Value} {r0 : List Addr} {H0 : Hp} {i : Nat} {ad : Addr} {xs : List D} {G : HP → Prop} {k : Int} (ea : r0[i]? = some ad) (hG : ∀ h, G h → h[i]? = some (.lst xs) ∨ h[i]? = some (.rdl xs)) : JRel K mg r0 H0 (ItF K ad k) (enumDs k xs) G := by
  intro j r H h e kp rp g
  obtain ⟨vs, sq, rl⟩ := list_at rp (e.get ea) (hG h g)
  refine ⟨fun d hd => ?_, fun hj => ⟨vs, sq, by rw [← rl.length]; simpa [enumDs] using hj⟩⟩
  unfold enumDs at hd
  rw [List.getElem?_mapIdx] at hd
  cases z : xs[j]? with
  | none => rw [z] at hd; cases hd
  | some d' =>
    rw [z] at hd; cases hd
    obtain ⟨v, hv, rv⟩ := rl.get z
    refine ⟨⟨vs, v, sq, hv⟩, fun y H' ⟨T, x, e1, e2, e3, e4⟩ => ?_⟩
    have e5 := e4 vs sq
    rw [hv] at e5
    cases e5
    subst e1 e3
    have kn : Keep H (upd H T (.tup [.int (k + (j : Int)), v])) := Keep.new e2
    exact ⟨kn, rp.fresh e2, .tup upd_same (.cons (.int _) (.cons (rv.mono (Ext.refl _) kn) .nil))⟩
theorem qi_enum {X : Cx} {W : WX} {e : Expr} {t : MA} {p pos tpos kp cp : Pos} {elts : List Expr} {kk : Nat} {k : Int} {j} (hk0 : -(2 ^ 63) ≤ k) (hk1 : k < 2 ^ 63) (hg : Gl X "enumerate") (hm : X.mg "enumerate" = none) (ha : QA X W [e] t)
    (hs : starEach [e] X.env = [(false, eval e X.env)] := by rfl) :
    QI X W (.Tuple elts kk tpos) (.Call (.Name "enumerate" p) [e] [⟨some "start", .Constant (.int k) j cp, kp⟩] pos) (iE k t) := (pi_enumF hk0 hk1 hg hm ha hs).imp fun σ H Q q => by
  obtain ⟨r, s, h, rp, rs, p⟩ := rIt.bind (rr := rDs) (m := t) (f := itE k) q
  refine ⟨r, s, h, rp, rs, p.imp fun v H1 ⟨r1, s1, ds, h1, rp1, rs1, rl1, p1⟩ => ?_⟩
  unfold itE at p1
  split at p1
  · rename_i i
    cases rl1 with
    | @cons x v xs vs a b =>
      cases b
      cases a with
      | ref ea =>
        split at p1
        · rename_i xs hx
          obtain ⟨vs, sq, rl⟩ := list_at rp1 ea (.inl hx)
          exact ⟨_, vs, rfl, sq, p1 r1 H1 _ (Ext.refl _) (Keep.refl _) rp1 (jrel_enum ea fun h g => .inl g)⟩
        · rename_i xs hx
          obtain ⟨vs, sq, rl⟩ := list_at rp1 ea (.inr hx)
          exact ⟨_, vs, rfl, sq, p1 r1 H1 _ (Ext.refl _) (Keep.refl _) rp1 (jrel_enum ea fun h g => .inr g)⟩
        · exact p1.elim
  · exact p1.elim
end PM
end
section
set_option Elab.async false
set_option linter.all false
set_option maxRecDepth 100000
set_option maxHeartbeats 1000000
namespace PM
open PySem PySem.Spec PyProof.Rows L2

section
variable {X : Cx} {K : PySem.W.Frag} {mg : Str → Option Value} {r : List Addr} {H : Hp} {h : HP}

/-! ### numbers and texts -/
def addG : D → D → HP → Option (D × HP) := fun x y h => match x, y with
  | .int i, .int j => some (.int (i + j), h)
  | .str a, .str b => if a.length + b.length ≤ 1000000 then some (.str (a ++ b), h) else none
  | .ref i, .ref j => match h[i]?, h[j]? with
    | some (.lst xs), some (.lst ys) => if xs.length + ys.length ≤ 1000000 then some (.ref h.length, h ++ [.lst (xs ++ ys)]) else none
    | _, _ => none
  | .tup xs, .tup ys => if xs ≠ [] ∧ xs.length + ys.length ≤ 1000000 then some (.tup (xs ++ ys), h) else none
  | _, _ => none
theorem nil_of {xs : List D} {vs : List V} (rl : RelDs K mg r H xs vs) : xs = [] ↔ vs = [] := by
  cases rl with
  | nil => simp
  | cons _ _ => simp
theorem op_addG : OpR X (binaryOp .Add) (rV2 X.K X.mg addG) := by
  intro pins s σ H x y v u Q I rx ry ⟨r, a, b, h, rp, ra, rb, p⟩
  unfold addG at p
  cases ra with
  | int i =>
    cases rb with
    | int j => exact op_add pins s σ H _ _ v u Q I rx ry ⟨i, j, rfl, rfl, p.here rp (.int _)⟩
    | _ => exact p.elim
  | str a =>
    cases rb with
    | str b =>
      dsimp only at p
      by_cases hz : a.length + b.length ≤ 1000000
      · rw [if_pos hz] at p
        exact op_add_str pins s σ H _ _ v u Q I rx ry ⟨a, b, rfl, rfl, line_of hz, p.here rp (.str _)⟩
      · rw [if_neg hz] at p; exact p.elim
    | _ => exact p.elim
  | @ref i ad ea =>
    cases rb with
    | @ref j bd eb =>
      dsimp only at p
      split at p
      · rename_i xs ys hx hy
        by_cases hz : xs.length + ys.length ≤ 1000000
        · rw [if_pos hz] at p
          obtain ⟨vs, q1, rl1⟩ := rp.obs i _ ad hx ea
          obtain ⟨us, q2, rl2⟩ := rp.obs j _ bd hy eb
          exact op_cat pins s σ H _ _ v u Q I rx ry ⟨ad, bd, vs, us, rfl, rfl, q1, q2, line_of (by rw [← rl1.length, ← rl2.length]; exact hz), fun p' hp => p.lst rp (rl1.append rl2) hp⟩
        · rw [if_neg hz] at p; exact p.elim
      · exact p.elim
    | _ => exact p.elim
  | @tup xs ad vs sq0 rl =>
    have sq := SqT.of (K := X.K) sq0
    cases rb with
    | @tup ys bd us sq20 rl2 =>
      have sq2 := SqT.of (K := X.K) sq20
      dsimp only at p
      by_cases hz : xs ≠ [] ∧ xs.length + ys.length ≤ 1000000
      · rw [if_pos hz] at p
        refine op_catT pins s σ H _ _ v u Q I rx ry ⟨ad, bd, vs, us, rfl, rfl, sq, sq2, fun e => hz.1 ((nil_of rl).mpr e), line_of (by rw [← rl.length, ← rl2.length]; exact hz.2), fun e => ?_, fun e p' hp => p.tup rp (rl.append rl2) hp⟩
        refine p.here rp (.tup sq0 ?_)
        have e2 := (nil_of rl2).mpr e
        subst e2
        rw [List.append_nil]; exact rl
      · rw [if_neg hz] at p; exact p.elim
    | _ => exact p.elim
  | _ => exact p.elim
theorem iop_addG : OpR X (inplaceOp .Add) (rV2 X.K X.mg fun x y h => match x, y with
  | .int i, .int j => some (.int (i + j), h)
  | .str a, .str b => if a.length + b.length ≤ 1000000 then some (.str (a ++ b), h) else none
  | _, _ => none) := by
  intro pins s σ H x y v u Q I rx ry ⟨r, a, b, h, rp, ra, rb, p⟩
  cases ra with
  | int i =>
    cases rb with
    | int j => exact iop_add pins s σ H _ _ v u Q I rx ry ⟨i, j, rfl, rfl, p.here rp (.int _)⟩
    | _ => exact p.elim
  | str a =>
    cases rb with
    | str b =>
      dsimp only at p
      by_cases hz : a.length + b.length ≤ 1000000
      · rw [if_pos hz] at p
        exact iop_add_str pins s σ H _ _ v u Q I rx ry ⟨a, b, rfl, rfl, line_of hz, p.here rp (.str _)⟩
      · rw [if_neg hz] at p; exact p.elim
    | _ => exact p.elim
  | _ => exact p.elim
/-- an operator of whole numbers with a condition -/
def intG (C : Int → Int → Bool) (g : Int → Int → Int) : D → D → HP → Option (D × HP) := fun x y h => match x, y with
  | .int i, .int j => if C i j = true then some (.int (g i j), h) else none
  | _, _ => none
theorem op_intG {f : Value → Value → Sem Value} {C : Int → Int → Prop} {Cb : Int → Int → Bool} {g : Int → Int → Int} (ho : OpR X f (rI C fun i j => .int (g i j))) (hC : ∀ i j, Cb i j = true → C i j) : OpR X f (rV2 X.K X.mg (intG Cb g)) := by
  intro pins s σ H x y v u Q I rx ry ⟨r, a, b, h, rp, ra, rb, p⟩
  unfold intG at p
  cases ra with
  | int i =>
    cases rb with
    | int j =>
      dsimp only at p
      by_cases hz : Cb i j = true
      · rw [if_pos hz] at p
        exact ho pins s σ H _ _ v u Q I rx ry ⟨i, j, rfl, rfl, hC i j hz, p.here rp (.int _)⟩
      · rw [if_neg hz] at p; exact p.elim
    | _ => exact p.elim
  | _ => exact p.elim
def intG0 (g : Int → Int → Int) : D → D → HP → Option (D × HP) := fun x y h => match x, y with
  | .int i, .int j => some (.int (g i j), h)
  | _, _ => none
theorem op_intG0 {f : Value → Value → Sem Value} {g : Int → Int → Int} (ho : OpR X f (rI0 fun i j => .int (g i j))) : OpR X f (rV2 X.K X.mg (intG0 g)) := by
  intro pins s σ H x y v u Q I rx ry ⟨r, a, b, h, rp, ra, rb, p⟩
  unfold intG0 at p
  cases ra with
  | int i =>
    cases rb with
    | int j => exact ho pins s σ H _ _ v u Q I rx ry ⟨i, j, rfl, rfl, p.here rp (.int _)⟩
    | _ => exact p.elim
  | _ => exact p.elim
def cmpG (g : Int → Int → Bool) : D → D → HP → Option (D × HP) := fun x y h => match x, y with
  | .int i, .int j => some (.bl (g i j), h)
  | _, _ => none
theorem op_cmpG {f : Value → Value → Sem Value} {g : Int → Int → Bool} (ho : OpR X f (rI0 fun i j => .bl (g i j))) : OpR X f (rV2 X.K X.mg (cmpG g)) := by
  intro pins s σ H x y v u Q I rx ry ⟨r, a, b, h, rp, ra, rb, p⟩
  unfold cmpG at p
  cases ra with
  | int i =>
    cases rb with
    | int j => exact ho pins s σ H _ _ v u Q I rx ry ⟨i, j, rfl, rfl, p.here rp (.bl _)⟩
    | _ => exact p.elim
  | _ => exact p.elim
abbrev subG := intG0 fun i j => i - j
theorem op_subG : OpR X (binaryOp .Sub) (rV2 X.K X.mg subG) := op_intG0 op_sub
def cMul (i j : Int) : Bool := (decide (-(2 ^ 64) < i) && decide (i < 2 ^ 64)) || (decide (-(2 ^ 64) < j) && decide (j < 2 ^ 64))
theorem cMul_ok (i j : Int) (h : cMul i j = true) : CMul i j := by
  unfold cMul at h
  simp only [Bool.or_eq_true, Bool.and_eq_true, decide_eq_true_eq] at h
  exact h
def mulG : D → D → HP → Option (D × HP) := fun x y h => match x, y with
  | .int i, .int j => if cMul i j = true then some (.int (i * j), h) else none
  | .str a, .int j => if 1 < j ∧ j ≤ 1000 ∧ a.length ≤ 1000 then some (.str (Txt.mul a j), h) else none
  | _, _ => none
theorem op_mulG : OpR X (binaryOp .Mult) (rV2 X.K X.mg mulG) := by
  intro pins s σ H x y v u Q I rx ry ⟨r, a, b, h, rp, ra, rb, p⟩
  unfold mulG at p
  cases ra with
  | int i =>
    cases rb with
    | int j =>
      dsimp only at p
      by_cases hz : cMul i j = true
      · rw [if_pos hz] at p
        exact op_mul pins s σ H _ _ v u Q I rx ry ⟨i, j, rfl, rfl, cMul_ok i j hz, p.here rp (.int _)⟩
      · rw [if_neg hz] at p; exact p.elim
    | _ => exact p.elim
  | str a =>
    cases rb with
    | int j =>
      dsimp only at p
      by_cases hz : 1 < j ∧ j ≤ 1000 ∧ a.length ≤ 1000
      · rw [if_pos hz] at p
        obtain ⟨t, rfl⟩ := rx
        obtain ⟨t2, rfl⟩ := ry
        have hle : a.length * j.toNat ≤ 1000 * 1000 := Nat.mul_le_mul hz.2.2 (by omega)
        refine SB.mul ⟨?_, fun _ _ => ?_, fun _ _ => ?_⟩ fun t' k => ⟨.str (Txt.mul a j), H, I.tok k, ⟨t', rfl⟩, p.here rp (.str _)⟩
        · simp; omega
        · have h1 : (1000 : Int) ≤ (2 ^ 63 - 1) / j := Int.le_ediv_of_mul_le (by omega) (by omega)
          have h3 := hz.2.2
          omega
        · unfold Builtin.Str.tooLong
          have := line_of hle
          simp; exact this
      · rw [if_neg hz] at p; exact p.elim
    | _ => exact p.elim
  | _ => exact p.elim
abbrev modG := intG (fun _ j => decide (j ≠ 0)) fun i j => i.fmod j
theorem op_modG : OpR X (binaryOp .Mod) (rV2 X.K X.mg modG) := op_intG op_modN fun i j h => by have q := of_decide_eq_true (p := j ≠ 0) h; exact q
abbrev fdivG := intG (fun _ j => decide (j ≠ 0 ∧ j.natAbs < 1073741824)) fun i j => i.fdiv j
theorem op_fdivG : OpR X (binaryOp .FloorDiv) (rV2 X.K X.mg fdivG) := op_intG op_fdivN fun i j h => by have q := of_decide_eq_true (p := j ≠ 0 ∧ j.natAbs < 1073741824) h; exact q
abbrev powG := intG (fun i j => decide (0 ≤ j ∧ j ≤ 1000000 ∧ i.natAbs < 2 ^ 64)) fun i j => i ^ j.toNat
theorem op_powG : OpR X (binaryOp .Pow) (rV2 X.K X.mg powG) := op_intG op_pow fun i j h => by have q := of_decide_eq_true (p := 0 ≤ j ∧ j ≤ 1000000 ∧ i.natAbs < 2 ^ 64) h; exact q
theorem iop_subG : OpR X (inplaceOp .Sub) (rV2 X.K X.mg subG) := op_intG0 iop_sub

/-- an order: numbers, texts -/
def ordG (g : Int → Int → Bool) (f : Str → Str → Bool) : D → D → HP → Option (D × HP) := fun x y h => match x, y with
  | .int i, .int j => some (.bl (g i j), h)
  | .str i, .str j => some (.bl (f i j), h)
  | _, _ => none
theorem op_ordG {fn : Value → Value → Sem Value} {g : Int → Int → Bool} {f : Str → Str → Bool} (ho : OpR X fn (rI0 fun i j => .bl (g i j))) (hs : OpR X fn (fun x y H Q => ∃ i j, x = .str i ∧ y = .str j ∧ Q (.bl (f i j)) H)) : OpR X fn (rV2 X.K X.mg (ordG g f)) := by
  intro pins s σ H x y v u Q I rx ry ⟨r, a, b, h, rp, ra, rb, p⟩
  unfold ordG at p
  cases ra with
  | int i =>
    cases rb with
    | int j => exact ho pins s σ H _ _ v u Q I rx ry ⟨i, j, rfl, rfl, p.here rp (.bl _)⟩
    | _ => exact p.elim
  | str i =>
    cases rb with
    | str j => exact hs pins s σ H _ _ v u Q I rx ry ⟨i, j, rfl, rfl, p.here rp (.bl _)⟩
    | _ => exact p.elim
  | _ => exact p.elim
end
end PM
end
section
set_option Elab.async false
set_option linter.all false
set_option maxRecDepth 100000
set_option maxHeartbeats 1000000
namespace PM
open PySem PySem.Spec PyProof.Rows L2

section
variable {X : Cx} {K : PySem.W.Frag} {mg : Str → Option Value} {r : List Addr} {H : Hp} {h : HP}
abbrev ltG := ordG (fun i j => decide (i < j)) (fun i j => decide (i.cps.toList < j.cps.toList))
abbrev leG := ordG (fun i j => decide (i ≤ j)) (fun i j => !decide (j.cps.toList < i.cps.toList))
abbrev gtG := ordG (fun i j => decide (j < i)) (fun i j => decide (j.cps.toList < i.cps.toList))
abbrev geG := ordG (fun i j => decide (j ≤ i)) (fun i j => !decide (i.cps.toList < j.cps.toList))
theorem op_ltG : OpR X (compareOp .Lt) (rV2 X.K X.mg ltG) := op_ordG op_lt op_lt_str
theorem op_leG : OpR X (compareOp .LtE) (rV2 X.K X.mg leG) := op_ordG op_le op_le_str
theorem op_gtG : OpR X (compareOp .Gt) (rV2 X.K X.mg gtG) := op_ordG op_gt op_gt_str
theorem op_geG : OpR X (compareOp .GtE) (rV2 X.K X.mg geG) := op_ordG op_ge op_ge_str

/-! ### what is, what equals -/
def isNon : D → Bool
  | .non => true
  | _ => false
def isG (neg : Bool) : D → D → HP → Option (D × HP) := fun x y h => match y with
  | .non => some (.bl (if neg then !isNon x else isNon x), h)
  | _ => none
theorem isNon_rel {d : D} {v : V} (rl : RelD K mg r H d v) : decide (v = .non) = isNon d := by
  cases rl <;> first | rfl | (simp [isNon])
theorem op_isG : OpR X (compareOp .Is) (rV2 X.K X.mg (isG false)) := by
  intro pins s σ H x y v u Q I rx ry ⟨r, a, b, h, rp, ra, rb, p⟩
  unfold isG at p
  cases rb with
  | non => exact op_isN pins s σ H _ _ v u Q I rx ry ⟨rfl, by rw [isNon_rel ra]; exact p.here rp (.bl _)⟩
  | _ => exact p.elim
theorem op_isnG : OpR X (compareOp .IsNot) (rV2 X.K X.mg (isG true)) := by
  intro pins s σ H x y v u Q I rx ry ⟨r, a, b, h, rp, ra, rb, p⟩
  unfold isG at p
  cases rb with
  | non => exact op_notN pins s σ H _ _ v u Q I rx ry ⟨rfl, by rw [isNon_rel ra]; exact p.here rp (.bl _)⟩
  | _ => exact p.elim
/-- a flat value as it stands -/
def flatD : D → Option V
  | .non => some .non
  | .bl b => some (.bl b)
  | .int i => some (.int i)
  | .str x => some (.str x)
  | _ => none
theorem flat_rel {d : D} {v w : V} (rl : RelD K mg r H d v) (e : flatD d = some w) : v = w ∧ flatV v = true := by
  cases rl <;> first | (cases e; exact ⟨rfl, rfl⟩) | cases e
def flatDs : List D → Option (List V)
  | [] => some []
  | d :: ds => match flatD d, flatDs ds with
    | some v, some vs => some (v :: vs)
    | _, _ => none
theorem flats_rel : ∀ {ds : List D} {vs ws : List V}, RelDs K mg r H ds vs → flatDs ds = some ws → vs = ws ∧ vs.all flatV = true
  | _, _, _, .nil, e => by cases e; exact ⟨rfl, rfl⟩
  | d :: ds, v :: vs, ws, .cons a t, e => by
    unfold flatDs at e
    cases e1 : flatD d with
    | none => rw [e1] at e; cases e
    | some w =>
      cases e2 : flatDs ds with
      | none => rw [e1, e2] at e; cases e
      | some ws' =>
        rw [e1, e2] at e
        cases e
        obtain ⟨z1, z2⟩ := flat_rel a e1
        obtain ⟨z3, z4⟩ := flats_rel t e2
        subst z1 z3
        exact ⟨rfl, by rw [List.all_cons, z2, z4]; rfl⟩
def toPy : Nat → HP → D → Option PyData
  | 0, _, _ => none
  | n + 1, h, d => match d with
    | .non => some .none
    | .bl b => some (.bool b)
    | .int i => some (.int i)
    | .str x => some (.str x)
    | .tup xs => (xs.mapM (toPy n h)).map PyData.tuple
    | .stp xs => (xs.mapM (toPy n h)).map PyData.tuple
    | .ref i => match h[i]? with
      | some (.lst xs) => (xs.mapM (toPy n h)).map PyData.list
      | some (.rdl xs) => (xs.mapM (toPy n h)).map PyData.list
      | _ => none
    | _ => none
theorem dp_all {f : D → Option PyData} (hf : ∀ d p v, f d = some p → RelD K mg r H d v → Dp K H v p) : ∀ (ds : List D) (ps : List PyData) (vs : List V), ds.mapM f = some ps → RelDs K mg r H ds vs → DpAll K H vs ps
  | [], ps, vs, e, rl => by cases rl; simp at e; subst e; exact .nil
  | d :: ds, ps, vs, e, rl => by
    cases rl with
    | cons a t =>
      rw [List.mapM_cons] at e
      cases e1 : f d with
      | none => rw [e1] at e; cases e
      | some p =>
        rw [e1] at e
        cases e2 : ds.mapM f with
        | none => rw [e2] at e; cases e
        | some ps' =>
          rw [e2] at e
          cases e
          exact .cons (hf d p _ e1 a) (dp_all hf ds ps' _ e2 t)
theorem toPy_ok (rp : Rep K mg r h H) : ∀ (n : Nat) (d : D) (p : PyData) (v : V), toPy n h d = some p → RelD K mg r H d v → Dp K H v p
  | 0, _, _, _, e, _ => by cases e
  | n + 1, d, p, v, e, rl => by
    unfold toPy at e
    cases rl with
    | non => cases e; exact .non
    | bl b => cases e; exact .bl b
    | int i => cases e; exact .int i
    | str x => cases e; exact .str x
    | @tup xs a vs sq0 t =>
      have sq := SqT.of (K := K) sq0
      dsimp only at e
      cases e1 : xs.mapM (toPy n h) with
      | none => rw [e1] at e; cases e
      | some ps => rw [e1] at e; cases e; exact .tup sq (dp_all (fun d p v => toPy_ok rp n d p v) xs ps vs e1 t)
    | @stp xs a vs sq0 t =>
      have sq := sq0.sq
      dsimp only at e
      cases e1 : xs.mapM (toPy n h) with
      | none => rw [e1] at e; cases e
      | some ps => rw [e1] at e; cases e; exact .tup sq (dp_all (fun d p v => toPy_ok rp n d p v) xs ps vs e1 t)
    | @ref i a ea =>
      dsimp only at e
      split at e
      · rename_i xs hx
        cases e1 : xs.mapM (toPy n h) with
        | none => rw [e1] at e; cases e
        | some ps =>
          rw [e1] at e; cases e
          obtain ⟨vs, sq, t⟩ := list_at rp ea (.inl hx)
          exact .lst sq (dp_all (fun d p v => toPy_ok rp n d p v) xs ps vs e1 t)
      · rename_i xs hx
        cases e1 : xs.mapM (toPy n h) with
        | none => rw [e1] at e; cases e
        | some ps =>
          rw [e1] at e; cases e
          obtain ⟨vs, sq, t⟩ := list_at rp ea (.inr hx)
          exact .lst sq (dp_all (fun d p v => toPy_ok rp n d p v) xs ps vs e1 t)
      · cases e
    | fn _ => cases e
    | ty _ => cases e
def eqB (x y : D) (h : HP) : Option Bool := match x, y with
  | .int i, .int j => some (decide (i = j))
  | .str a, .str b => some (decide (a = b))
  | .bl a, .bl b => some (decide (a = b))
  | .non, .non => some true
  | x, y => match toPy 60 h x, toPy 60 h y with
    | some p, some q => if SeqAt.shaped p = true ∧ SeqAt.shaped q = true then some (PyData.eqv p q) else none
    | _, _ => none
def eqG (neg : Bool) : D → D → HP → Option (D × HP) := fun x y h => (eqB x y h).map fun b => (.bl (if neg then !b else b), h)
theorem eqB_deep {x y : D} {v u : V} {b : Bool} (rp : Rep K mg r h H) (rx : RelD K mg r H x v) (ry : RelD K mg r H y u) (e : (match toPy 60 h x, toPy 60 h y with
    | some p, some q => if SeqAt.shaped p = true ∧ SeqAt.shaped q = true then some (PyData.eqv p q) else none
    | _, _ => none) = some b) : ∃ p q, Dp K H v p ∧ Dp K H u q ∧ SeqAt.shaped p = true ∧ SeqAt.shaped q = true ∧ PyData.eqv p q = b := by
  cases e1 : toPy 60 h x with
  | none => rw [e1] at e; cases e
  | some p =>
    cases e2 : toPy 60 h y with
    | none => rw [e1, e2] at e; cases e
    | some q =>
      rw [e1, e2] at e
      dsimp only at e
      by_cases hz : SeqAt.shaped p = true ∧ SeqAt.shaped q = true
      · rw [if_pos hz] at e
        exact ⟨p, q, toPy_ok rp 60 x p v e1 rx, toPy_ok rp 60 y q u e2 ry, hz.1, hz.2, Option.some.inj e⟩
      · rw [if_neg hz] at e; cases e
/-- how two values are compared: plainly, or as data -/
theorem eqB_ok {x y : D} {v u : V} {b : Bool} (rp : Rep K mg r h H) (rx : RelD K mg r H x v) (ry : RelD K mg r H y u) (e : eqB x y h = some b) :
    (scal v u = true ∧ decide (v = u) = b) ∨ ∃ p q, Dp K H v p ∧ Dp K H u q ∧ SeqAt.shaped p = true ∧ SeqAt.shaped q = true ∧ PyData.eqv p q = b := by
  unfold eqB at e
  split at e
  · cases rx; cases ry; cases e; exact .inl ⟨rfl, by simp⟩
  · cases rx; cases ry; cases e; exact .inl ⟨rfl, by simp⟩
  · cases rx; cases ry; cases e; exact .inl ⟨rfl, by simp⟩
  · cases rx; cases ry; cases e; exact .inl ⟨rfl, by simp⟩
  · exact .inr (eqB_deep rp rx ry e)
theorem op_eqG (hu : X.A.units + 64 < cLine) : OpR X (compareOp .Eq) (rV2 X.K X.mg (eqG false)) := by
  intro pins s σ H x y v u Q I rx ry ⟨r, a, b, h, rp, ra, rb, p⟩
  unfold eqG at p
  cases e : eqB a b h with
  | none => rw [e] at p; exact p.elim
  | some z =>
    rw [e] at p
    have q := p.here rp (.bl _)
    rcases eqB_ok rp ra rb e with ⟨z1, z2⟩ | ⟨d1, d2, z1, z2, z3, z4, z5⟩
    · exact op_eq pins s σ H _ _ v u Q I rx ry ⟨z1, by rw [z2]; exact q⟩
    · exact op_eqD hu pins s σ H _ _ v u Q I rx ry ⟨d1, d2, z1, z2, z3, z4, by rw [z5]; exact q⟩
theorem op_neG (hu : X.A.units + 64 < cLine) : OpR X (compareOp .NotEq) (rV2 X.K X.mg (eqG true)) := by
  intro pins s σ H x y v u Q I rx ry ⟨r, a, b, h, rp, ra, rb, p⟩
  unfold eqG at p
  cases e : eqB a b h with
  | none => rw [e] at p; exact p.elim
  | some z =>
    rw [e] at p
    have q := p.here rp (.bl _)
    rcases eqB_ok rp ra rb e with ⟨z1, z2⟩ | ⟨d1, d2, z1, z2, z3, z4, z5⟩
    · exact op_ne pins s σ H _ _ v u Q I rx ry ⟨z1, by rw [z2]; exact q⟩
    · exact op_neD hu pins s σ H _ _ v u Q I rx ry ⟨d1, d2, z1, z2, z3, z4, by rw [z5]; exact q⟩

/-! ### what is in -/
def inB (x y : D) (h : HP) : Option Bool := match y with
  | .str b => match x with
    | .str a => match a.cps.toList with
      | [c] => some (decide (c ∈ b.cps.toList))
      | _ => none
    | _ => none
  | .tup xs => match flatD x, flatDs xs with
    | some v, some vs => some (inV v vs)
    | _, _ => none
  | .stp xs => match flatD x, flatDs xs with
    | some v, some vs => some (inV v vs)
    | _, _ => none
  | .ref i => match h[i]? with
    | some (.lst xs) => match flatD x, flatDs xs with
      | some v, some vs => some (inV v vs)
      | _, _ => none
    | some (.rdl xs) => match flatD x, flatDs xs with
      | some v, some vs => some (inV v vs)
      | _, _ => none
    | _ => none
  | _ => none
def inG (neg : Bool) : D → D → HP → Option (D × HP) := fun x y h => (inB x y h).map fun b => (.bl (if neg then !b else b), h)
theorem one_sign {a : Str} {c : Nat} (e : a.cps.toList = [c]) : a = ⟨#[c]⟩ := by
  obtain ⟨l⟩ := a
  have : l = #[c] := by
    apply Array.toList_inj.mp; exact e
  rw [this]
theorem seq_in {x : D} {xs : List D} {v : V} {vs ws : List V} {w : V} (rx : RelD K mg r H x v) (rl : RelDs K mg r H xs vs) (e1 : flatD x = some w) (e2 : flatDs xs = some ws) : flatV v = true ∧ vs.all flatV = true ∧ inV v vs = inV w ws := by
  obtain ⟨z1, z2⟩ := flat_rel rx e1
  obtain ⟨z3, z4⟩ := flats_rel rl e2
  subst z1 z3
  exact ⟨z2, z4, rfl⟩
theorem inB_ok {x y : D} {v u : V} {b : Bool} (rp : Rep K mg r h H) (rx : RelD K mg r H x v) (ry : RelD K mg r H y u) (e : inB x y h = some b) :
    (∃ (c : Nat) (z : Str), v = .str ⟨#[c]⟩ ∧ u = .str z ∧ decide (c ∈ z.cps.toList) = b) ∨ ∃ p xs, u = .ref p ∧ (SqL K H p xs ∨ SqT K H p xs) ∧ flatV v = true ∧ xs.all flatV = true ∧ inV v xs = b := by
  unfold inB at e
  cases ry with
  | str z =>
    cases rx with
    | str a =>
      dsimp only at e
      split at e
      · rename_i c hc
        cases e
        exact .inl ⟨c, z, by rw [one_sign hc], rfl, rfl⟩
      · cases e
    | _ => cases e
  | @tup xs ad vs sq0 rl =>
    have sq := SqT.of (K := K) sq0
    dsimp only at e
    split at e
    · rename_i w ws e1 e2
      obtain ⟨z1, z2, z3⟩ := seq_in rx rl e1 e2
      cases e
      exact .inr ⟨ad, vs, rfl, .inr sq, z1, z2, z3⟩
    · cases e
  | @stp xs ad vs sq0 rl =>
    have sq := sq0.sq
    dsimp only at e
    split at e
    · rename_i w ws e1 e2
      obtain ⟨z1, z2, z3⟩ := seq_in rx rl e1 e2
      cases e
      exact .inr ⟨ad, vs, rfl, .inr sq, z1, z2, z3⟩
    · cases e
  | @ref i ad ea =>
    dsimp only at e
    split at e
    · rename_i xs hx
      obtain ⟨vs, sq, rl⟩ := list_at rp ea (.inl hx)
      split at e
      · rename_i w ws e1 e2
        obtain ⟨z1, z2, z3⟩ := seq_in rx rl e1 e2
        cases e
        exact .inr ⟨ad, vs, rfl, .inl sq, z1, z2, z3⟩
      · cases e
    · rename_i xs hx
      obtain ⟨vs, sq, rl⟩ := list_at rp ea (.inr hx)
      split at e
      · rename_i w ws e1 e2
        obtain ⟨z1, z2, z3⟩ := seq_in rx rl e1 e2
        cases e
        exact .inr ⟨ad, vs, rfl, .inl sq, z1, z2, z3⟩
      · cases e
    · cases e
  | _ => cases e
theorem op_inG : OpR X (compareOp .In) (rV2 X.K X.mg (inG false)) := by
  intro pins s σ H x y v u Q I rx ry ⟨r, a, b, h, rp, ra, rb, p⟩
  unfold inG at p
  cases e : inB a b h with
  | none => rw [e] at p; exact p.elim
  | some z =>
    rw [e] at p
    have q := p.here rp (.bl _)
    rcases inB_ok rp ra rb e with ⟨c, y', z1, z2, z3⟩ | ⟨ad, xs, z1, z2, z3, z4, z5⟩
    · exact op_in_sign pins s σ H _ _ v u Q I rx ry ⟨c, y', z1, z2, by rw [z3]; exact q⟩
    · exact op_in_seq pins s σ H _ _ v u Q I rx ry ⟨ad, xs, z1, z2, z3, z4, by rw [z5]; exact q⟩
theorem op_ninG : OpR X (compareOp .NotIn) (rV2 X.K X.mg (inG true)) := by
  intro pins s σ H x y v u Q I rx ry ⟨r, a, b, h, rp, ra, rb, p⟩
  unfold inG at p
  cases e : inB a b h with
  | none => rw [e] at p; exact p.elim
  | some z =>
    rw [e] at p
    have q := p.here rp (.bl _)
    rcases inB_ok rp ra rb e with ⟨c, y', z1, z2, z3⟩ | ⟨ad, xs, z1, z2, z3, z4, z5⟩
    · exact op_notIn_sign pins s σ H _ _ v u Q I rx ry ⟨c, y', z1, z2, by rw [z3]; exact q⟩
    · exact op_notIn_seq pins s σ H _ _ v u Q I rx ry ⟨ad, xs, z1, z2, z3, z4, by rw [z5]; exact q⟩
/-- a <= b < c -/
def mChain (g g' : D → D → HP → Option (D × HP)) (a b c : ME) : ME := fun s h => (a s h).bind fun x h => (b s h).bind fun y h => ((ofO (g x y h)).bind kBl).bind fun k h => bif k then (c s h).bind fun z h => ofO (g' y z h) else .ok (.bl false) h

/-! ### places and slices -/
def ixG : D → D → HP → Option (D × HP) := fun x y h => match y with
  | .int i => match x with
    | .str z => if z.length ≤ 1000000 then (atI z.cps.toList i).map fun c => (.str ⟨#[c]⟩, h) else none
    | .tup xs => (atI xs i).map fun d => (d, h)
    | .stp xs => (atI xs i).map fun d => (d, h)
    | .ref j => match h[j]? with
      | some (.lst xs) => (atI xs i).map fun d => (d, h)
      | some (.rdl xs) => (atI xs i).map fun d => (d, h)
      | _ => none
    | _ => none
  | _ => none
theorem atI_rel {xs : List D} {vs : List V} {i : Int} {d : D} (rl : RelDs K mg r H xs vs) (e : atI xs i = some d) : ∃ v, atI vs i = some v ∧ RelD K mg r H d v := by
  unfold atI at e ⊢
  rw [← rl.length]
  cases q : ixN xs.length i with
  | none => rw [q] at e; cases e
  | some j =>
    rw [q] at e
    exact rl.get e
theorem ix_G : IxR X (rV2 X.K X.mg ixG) := by
  intro value slice pins s σ H x y v u Q I rx ry ⟨r, a, b, h, rp, ra, rb, p⟩ hs
  unfold ixG at p
  cases rb with
  | int i =>
    cases ra with
    | str z =>
      dsimp only at p
      by_cases hz : z.length ≤ 1000000
      · rw [if_pos hz] at p
        cases e : atI z.cps.toList i with
        | none => rw [e] at p; exact p.elim
        | some c =>
          rw [e] at p
          exact ix_str value slice pins s σ H _ _ v u Q I rx ry ⟨z, i, c, rfl, rfl, line_of hz, e, p.here rp (.str _)⟩ hs
      · rw [if_neg hz] at p; exact p.elim
    | @tup xs ad vs sq0 rl =>
      have sq := SqT.of (K := X.K) sq0
      dsimp only at p
      cases e : atI xs i with
      | none => rw [e] at p; exact p.elim
      | some d =>
        rw [e] at p
        obtain ⟨w, e1, rw'⟩ := atI_rel rl e
        exact ix_tup value slice pins s σ H _ _ v u Q I rx ry ⟨ad, vs, i, w, rfl, rfl, sq, e1, p.here rp rw'⟩ hs
    | @stp xs ad vs sq0 rl =>
      have sq := sq0.sq
      dsimp only at p
      cases e : atI xs i with
      | none => rw [e] at p; exact p.elim
      | some d =>
        rw [e] at p
        obtain ⟨w, e1, rw'⟩ := atI_rel rl e
        exact ix_tup value slice pins s σ H _ _ v u Q I rx ry ⟨ad, vs, i, w, rfl, rfl, sq, e1, p.here rp rw'⟩ hs
    | @ref j ad ea =>
      dsimp only at p
      split at p
      · rename_i xs hx
        obtain ⟨vs, sq, rl⟩ := list_at rp ea (.inl hx)
        cases e : atI xs i with
        | none => rw [e] at p; exact p.elim
        | some d =>
          rw [e] at p
          obtain ⟨w, e1, rw'⟩ := atI_rel rl e
          exact ix_list value slice pins s σ H _ _ v u Q I rx ry ⟨ad, vs, i, w, rfl, rfl, sq, e1, p.here rp rw'⟩ hs
      · rename_i xs hx
        obtain ⟨vs, sq, rl⟩ := list_at rp ea (.inr hx)
        cases e : atI xs i with
        | none => rw [e] at p; exact p.elim
        | some d =>
          rw [e] at p
          obtain ⟨w, e1, rw'⟩ := atI_rel rl e
          exact ix_list value slice pins s σ H _ _ v u Q I rx ry ⟨ad, vs, i, w, rfl, rfl, sq, e1, p.here rp rw'⟩ hs
      · exact p.elim
    | _ => exact p.elim
  | _ => exact p.elim
def slG : D → Option Int → Option Int → HP → Option (D × HP) := fun x lo hi h => match x with
  | .str z => if z.length ≤ 1000000 then some (.str (cutS z lo hi), h) else none
  | _ => none
theorem sl_G : SlR X (rVsl X.K X.mg slG) := by
  intro pins s σ H x v vl vu lo hi sl Q I rx hs pl pu ⟨r, d, h, rp, rl, p⟩
  unfold slG at p
  cases rl with
  | str z =>
    dsimp only at p
    by_cases hz : z.length ≤ 1000000
    · rw [if_pos hz] at p
      exact sl_str pins s σ H _ v vl vu lo hi sl Q I rx hs pl pu ⟨z, rfl, line_of hz, p.here rp (.str _)⟩
    · rw [if_neg hz] at p; exact p.elim
  | _ => exact p.elim
end
end PM
end
section
set_option Elab.async false
set_option linter.all false
set_option maxRecDepth 100000
set_option maxHeartbeats 1000000
namespace PM
open PySem PySem.Spec PyProof.Rows L2

section
variable {X : Cx} {K : PySem.W.Frag} {mg : Str → Option Value} {r : List Addr} {H : Hp} {h : HP} {W : WX} {a b c e o i elt : Expr} {es rest : List Expr} {ma mb mc : ME} {t : MA} {pos pos' apos cpos : Pos}

theorem qe_chain {op op' : CmpOp} {g g' : D → D → HP → Option (D × HP)} (ho : OpR X (compareOp op) (rV2 X.K X.mg g)) (ho' : OpR X (compareOp op') (rV2 X.K X.mg g')) (ha : QE X W a ma) (hb : QE X W b mb) (hc : QE X W c mc)
    (hm : lastMarks [op, op'] [b, c] = false := by with_unfolding_all rfl) : QE X W (.Compare a [op, op'] [b, c] pos) (mChain g g' ma mb mc) := (pe_chain ho ho' ha hb hc hm).imp fun σ H Q q => by
  obtain ⟨r, s, h, rp, rs, p⟩ := tM.bind (rr1 := rD) (m := ma) (k := fun s x h => (mb s h).bind fun y h => ((ofO (g x y h)).bind kBl).bind fun k h => bif k then (mc s h).bind fun z h => ofO (g' y z h) else R.ok (D.bl false) h) q
  refine ⟨r, s, h, rp, rs, p.imp fun x H1 ⟨r1, s1, dx, h1, rp1, rs1, rl1, p1⟩ => ?_⟩
  refine ⟨r1, s1, h1, rp1, rs1, (Post.bind (rr1 := rD) p1).imp fun y H2 ⟨r2, dy, h2, e2, k2, rp2, rl2, p2⟩ => ?_⟩
  refine ⟨r2, dx, dy, h2, rp2, rl1.mono e2 k2, rl2, ?_⟩
  have p3 : Post X.K X.mg rD W r2 σ H2 Q ((ofO (g dx dy h2)).bind fun d h => (kBl d h).bind fun k h => bif k then (mc s1 h).bind fun z h => ofO (g' dy z h) else R.ok (D.bl false) h) := by rw [← bind_bind]; exact p2
  refine ((Post.bind (rr1 := rD) p3).imp fun z H3 ⟨r3, dz, h3, e3, k3, rp3, rl3, p4⟩ => ?_).ofO
  obtain ⟨bb, e4, p5⟩ := bool_of rp3 rl3 p4
  refine ⟨bb, e4, ?_⟩
  cases bb with
  | true =>
    refine ⟨r3, s1, h3, rp3, (rs1.mono e2 k2).mono e3 k3, (Post.bind (rr1 := rD) p5).imp fun w H4 ⟨r4, dw, h4, e5, k5, rp4, rl4, p6⟩ => ?_⟩
    exact ⟨r4, dy, dw, h4, rp4, (rl2.mono e3 k3).mono e5 k5, rl4, p6.ofO⟩
  | false => exact Post.here (rr := rD) p5 rp3 (.bl false)

/-! ### calls of built-ins -/
def lenG : List D → HP → Option (D × HP) := fun ds h => match ds with
  | [.str x] => if x.length ≤ 1000000 then some (.int x.length, h) else none
  | [.tup xs] => some (.int xs.length, h)
  | [.stp xs] => some (.int xs.length, h)
  | [.ref i] => match h[i]? with
    | some (.lst xs) => some (.int xs.length, h)
    | some (.rdl xs) => some (.int xs.length, h)
    | _ => none
  | _ => none
theorem one_of {ds : List D} {vs : List V} {d : D} (rl : RelDs K mg r H [d] vs) : ∃ v, vs = [v] ∧ RelD K mg r H d v := by
  cases rl with
  | cons a b => cases b; exact ⟨_, rfl, a⟩
theorem two_of {vs : List V} {d d' : D} (rl : RelDs K mg r H [d, d'] vs) : ∃ v v', vs = [v, v'] ∧ RelD K mg r H d v ∧ RelD K mg r H d' v' := by
  cases rl with
  | cons a b =>
    cases b with
    | cons b c => cases c; exact ⟨_, _, rfl, a, b⟩
theorem call_lenG : CallR X (.builtin "len") (rVs X.K X.mg lenG) := by
  intro pins s σ H xs us Q I rv ⟨r, ds, h, rp, rl, p⟩
  unfold lenG at p
  split at p
  · rename_i x
    obtain ⟨v, rfl, rd⟩ := one_of (ds := []) rl
    cases rd
    by_cases hz : x.length ≤ 1000000
    · rw [if_pos hz] at p
      exact call_len pins s σ H _ us Q I rv ⟨_, _, rfl, ⟨line_of hz, rfl⟩, p.here rp (.int _)⟩
    · rw [if_neg hz] at p; exact p.elim
  · rename_i xs
    obtain ⟨v, rfl, rd⟩ := one_of (ds := []) rl
    cases rd with
    | tup sq rls => exact call_len pins s σ H _ us Q I rv ⟨_, _, rfl, .inr ⟨_, SqT.of sq, rls.length⟩, p.here rp (.int _)⟩
  · rename_i xs
    obtain ⟨v, rfl, rd⟩ := one_of (ds := []) rl
    cases rd with
    | stp sq rls => exact call_len pins s σ H _ us Q I rv ⟨_, _, rfl, .inr ⟨_, sq.sq, rls.length⟩, p.here rp (.int _)⟩
  · rename_i i
    obtain ⟨v, rfl, rd⟩ := one_of (ds := []) rl
    cases rd with
    | ref ea =>
      split at p
      · rename_i xs hx
        obtain ⟨vs, sq, rls⟩ := list_at rp ea (.inl hx)
        exact call_len pins s σ H _ us Q I rv ⟨_, _, rfl, .inl ⟨_, sq, rls.length⟩, p.here rp (.int _)⟩
      · rename_i xs hx
        obtain ⟨vs, sq, rls⟩ := list_at rp ea (.inr hx)
        exact call_len pins s σ H _ us Q I rv ⟨_, _, rfl, .inl ⟨_, sq, rls.length⟩, p.here rp (.int _)⟩
      · exact p.elim
  · exact p.elim
def toIntG : List D → HP → Option (D × HP) := fun ds h => match ds with
  | [.int i] => some (.int i, h)
  | [.bl k] => some (.int (if k then 1 else 0), h)
  | [.str a] => if a.length ≤ 640 then (PySem.intText? a).map fun n => (.int n, h) else none
  | _ => none
theorem call_toIntG : CallR X (.type "int") (rVs X.K X.mg toIntG) := by
  intro pins s σ H xs us Q I rv ⟨r, ds, h, rp, rl, p⟩
  unfold toIntG at p
  split at p
  · obtain ⟨v, rfl, rd⟩ := one_of (ds := []) rl
    cases rd
    exact call_int1 pins s σ H _ us Q I rv (.inl ⟨_, rfl, p.here rp (.int _)⟩)
  · obtain ⟨v, rfl, rd⟩ := one_of (ds := []) rl
    cases rd
    exact call_int1 pins s σ H _ us Q I rv (.inr ⟨_, rfl, p.here rp (.int _)⟩)
  · rename_i a
    obtain ⟨v, rfl, rd⟩ := one_of (ds := []) rl
    cases rd
    by_cases hz : a.length ≤ 640
    · rw [if_pos hz] at p
      cases z : PySem.intText? a with
      | none => rw [z] at p; exact p.elim
      | some n =>
        rw [z] at p
        exact call_int_str pins s σ H _ us Q I rv ⟨_, _, rfl, z, hz, p.here rp (.int _)⟩
    · rw [if_neg hz] at p; exact p.elim
  · exact p.elim
def min2G : List D → HP → Option (D × HP) := fun ds h => match ds with
  | [.int i, .int j] => some (.int (if j < i then j else i), h)
  | _ => none
theorem call_min2G (hc : X.calm = true) : CallR X (.builtin "min") (rVs X.K X.mg min2G) := by
  intro pins s σ H xs us Q I rv ⟨r, ds, h, rp, rl, p⟩
  unfold min2G at p
  split at p
  · obtain ⟨v, v', rfl, rd, rd'⟩ := two_of rl
    cases rd
    cases rd'
    exact call_min2 hc pins s σ H _ us Q I rv ⟨_, _, rfl, p.here rp (.int _)⟩
  · exact p.elim
def max2G : List D → HP → Option (D × HP) := fun ds h => match ds with
  | [.int i, .int j] => some (.int (if j > i then j else i), h)
  | _ => none
theorem call_max2G (hc : X.calm = true) : CallR X (.builtin "max") (rVs X.K X.mg max2G) := by
  intro pins s σ H xs us Q I rv ⟨r, ds, h, rp, rl, p⟩
  unfold max2G at p
  split at p
  · obtain ⟨v, v', rfl, rd, rd'⟩ := two_of rl
    cases rd
    cases rd'
    exact call_max2 hc pins s σ H _ us Q I rv ⟨_, _, rfl, p.here rp (.int _)⟩
  · exact p.elim
def toTupG : List D → HP → Option (D × HP) := fun ds h => match ds with
  | [.tup xs] => some (.tup xs, h)
  | [.stp xs] => some (.stp xs, h)
  | [.ref i] => match h[i]? with
    | some (.lst xs) => some (.tup xs, h)
    | some (.rdl xs) => some (.tup xs, h)
    | _ => none
  | _ => none
theorem call_toTupG : CallR X (.type "tuple") (rVs X.K X.mg toTupG) := by
  intro pins s σ H xs us Q I rv ⟨r, ds, h, rp, rl, p⟩
  unfold toTupG at p
  split at p
  · rename_i xs
    obtain ⟨v, rfl, rd⟩ := one_of (ds := []) rl
    cases rd with
    | tup sq rls => exact call_tuple_of pins s σ H _ us Q I rv ⟨_, _, rfl, .inr ⟨SqT.of sq, p.here rp (.tup sq rls)⟩⟩
  · rename_i xs
    obtain ⟨v, rfl, rd⟩ := one_of (ds := []) rl
    cases rd with
    | stp sq rls => exact call_tuple_of pins s σ H _ us Q I rv ⟨_, _, rfl, .inr ⟨sq.sq, p.here rp (.stp sq rls)⟩⟩
  · rename_i i
    obtain ⟨v, rfl, rd⟩ := one_of (ds := []) rl
    cases rd with
    | ref ea =>
      split at p
      · rename_i xs hx
        obtain ⟨vs, sq, rls⟩ := list_at rp ea (.inl hx)
        exact call_tuple_of pins s σ H _ us Q I rv ⟨_, _, rfl, .inl ⟨sq, fun l hl => p.tup rp rls hl⟩⟩
      · rename_i xs hx
        obtain ⟨vs, sq, rls⟩ := list_at rp ea (.inr hx)
        exact call_tuple_of pins s σ H _ us Q I rv ⟨_, _, rfl, .inl ⟨sq, fun l hl => p.tup rp rls hl⟩⟩
      · exact p.elim
  · exact p.elim
def toOrdG : List D → HP → Option (D × HP) := fun ds h => match ds with
  | [.str x] => if x.length = 1 then some (.int (x.cps.getD 0 0 : Nat), h) else none
  | _ => none
theorem call_toOrdG : CallR X (.builtin "ord") (rVs X.K X.mg toOrdG) := by
  intro pins s σ H xs us Q I rv ⟨r, ds, h, rp, rl, p⟩
  unfold toOrdG at p
  split at p
  · rename_i x
    obtain ⟨v, rfl, rd⟩ := one_of (ds := []) rl
    cases rd
    by_cases hz : x.length = 1
    · rw [if_pos hz] at p
      exact call_ord pins s σ H _ us Q I rv ⟨_, rfl, hz, p.here rp (.int _)⟩
    · rw [if_neg hz] at p; exact p.elim
  · exact p.elim
def isiG : List D → HP → Option (D × HP) := fun ds h => match ds with
  | [.ref i, .ty n] => match h[i]? with
    | some (.lst _) => (kitB "list" n).map fun b => (.bl b, h)
    | some (.dic _) => (kitB "dict" n).map fun b => (.bl b, h)
    | _ => none
  | [.int _, .ty n] => (kitB "int" n).map fun b => (.bl b, h)
  | [.str _, .ty n] => (kitB "str" n).map fun b => (.bl b, h)
  | [.bl _, .ty n] => (kitB "bool" n).map fun b => (.bl b, h)
  | [.non, .ty n] => (kitB "NoneType" n).map fun b => (.bl b, h)
  | _ => none
theorem isi_at {t n : String} {x : V} {us : List Value} {s : Shared} {pins : List (Addr × Obj)} {σ : L2.St} {H : Hp} {Q : VK} (I : Inv X pins σ H s) (rv : Vals [x, .ty n] us) (ty : TyX X.K H x (.type t)) (rp : Rep X.K X.mg r h H)
    (p : PostV X.K X.mg r H Q ((kitB t n).map fun b => (.bl b, h))) : wpAny (model X.prog X.w) X.A (call (.builtin "isinstance") us) (EP X pins σ Q) X.xe s := by
  cases z : kitB t n with
  | none => rw [z] at p; exact p.elim
  | some bb =>
    rw [z] at p
    exact call_isi pins s σ H _ us Q I rv ⟨_, _, _, _, bb, rfl, .ty n, ty, kit_ty z, p.here rp (.bl _)⟩
theorem call_isiG : CallR X (.builtin "isinstance") (rVs X.K X.mg isiG) := by
  intro pins s σ H xs us Q I rv ⟨r, ds, h, rp, rl, p⟩
  unfold isiG at p
  split at p
  · obtain ⟨v, v', rfl, rd, rd'⟩ := two_of rl
    cases rd'
    cases rd with
    | @ref i ad ea =>
      split at p
      · rename_i xs hx
        obtain ⟨vs, q, _⟩ := rp.obs _ _ ad hx ea
        exact isi_at I rv (.base (.lst q)) rp p
      · rename_i xs hx
        obtain ⟨vs, q, _⟩ := rp.obs _ _ ad hx ea
        exact isi_at I rv (.base (.dK q)) rp p
      · exact p.elim
  · obtain ⟨v, v', rfl, rd, rd'⟩ := two_of rl
    cases rd'; cases rd
    exact isi_at I rv (.base (.int _)) rp p
  · obtain ⟨v, v', rfl, rd, rd'⟩ := two_of rl
    cases rd'; cases rd
    exact isi_at I rv (.base (.str _)) rp p
  · obtain ⟨v, v', rfl, rd, rd'⟩ := two_of rl
    cases rd'; cases rd
    exact isi_at I rv (.base (.bl _)) rp p
  · obtain ⟨v, v', rfl, rd, rd'⟩ := two_of rl
    cases rd'; cases rd
    exact isi_at I rv (.base .non) rp p
  · exact p.elim
def boolsD : List D → Option (List Bool)
  | [] => some []
  | .bl b :: ds => (boolsD ds).map (b :: ·)
  | _ :: _ => none
theorem boolsD_rel : ∀ {ds : List D} {vs : List V} {bs : List Bool}, RelDs K mg r H ds vs → boolsD ds = some bs → vs = bs.map V.bl
  | _, _, _, .nil, e => by cases e; rfl
  | _, _, bs, .cons (x := d) a t, e => by
    cases a with
    | bl b =>
      unfold boolsD at e
      cases z : boolsD _ with
      | none => rw [z] at e; cases e
      | some bs' => rw [z] at e; cases e; rw [boolsD_rel t z]; rfl
    | _ => cases e
def allG : List D → HP → Option (D × HP) := fun ds h => match ds with
  | [.ref i] => match h[i]? with
    | some (.lst xs) => (boolsD xs).map fun bs => (.bl (bs.all id), h)
    | _ => none
  | _ => none
theorem call_allG (hc : X.calm = true) : CallR X (.builtin "all") (rVs X.K X.mg allG) := by
  intro pins s σ H xs us Q I rv ⟨r, ds, h, rp, rl, p⟩
  unfold allG at p
  split at p
  · obtain ⟨v, rfl, rd⟩ := one_of (ds := []) rl
    cases rd with
    | @ref i ad ea =>
      split at p
      · rename_i xs hx
        obtain ⟨vs, q, rls⟩ := rp.obs _ _ ad hx ea
        cases z : boolsD xs with
        | none => rw [z] at p; exact p.elim
        | some bs =>
          rw [z] at p
          have e := boolsD_rel rls z
          subst e
          exact cr_all hc pins s σ H _ us Q I rv ⟨ad, bs, rfl, SqL.of q, p.here rp (.bl _)⟩
      · exact p.elim
  · exact p.elim

/-! ### methods of built-ins -/
def tyB (T : String) (d : D) (h : HP) : Bool := match d with
  | .str _ => T == "str"
  | .ref i => match h[i]? with
    | some (.lst _) => T == "list"
    | some (.rdl _) => T == "list"
    | some (.dic _) => T == "dict"
    | some (.dit _) => T == "dict"
    | _ => false
  | _ => false
def mMeth (T : String) (g : D → List D → HP → Option (D × HP)) (a : ME) (t : MA) : ME := fun s h => (a s h).bind fun x h => bif tyB T x h then (t s h).bind fun xs h => ofO (g x xs h) else .bad
theorem tyB_ok {T : String} {d : D} {v : V} (rp : Rep K mg r h H) (rl : RelD K mg r H d v) (e : tyB T d h = true) : tyV K T v H := by
  unfold tyB at e
  cases rl with
  | str x => exact beq_iff_eq.mp e
  | @ref i ad ea =>
    dsimp only at e
    split at e
    · rename_i xs hx
      obtain ⟨vs, sq, _⟩ := list_at rp ea (.inl hx)
      exact .inl ⟨beq_iff_eq.mp e, vs, sq⟩
    · rename_i xs hx
      obtain ⟨vs, sq, _⟩ := list_at rp ea (.inr hx)
      exact .inl ⟨beq_iff_eq.mp e, vs, sq⟩
    · rename_i xs hx
      obtain ⟨vs, q, _⟩ := rp.obs _ _ ad hx ea
      exact .inr (.inr (.inl ⟨beq_iff_eq.mp e, .inl ⟨vs, q⟩⟩))
    · rename_i xs hx
      obtain ⟨vs, q, _⟩ := rp.obs _ _ ad hx ea
      exact .inr (.inr (.inl ⟨beq_iff_eq.mp e, .inr ⟨vs, q⟩⟩))
    · cases e
  | _ => cases e
theorem qe_bm {T id : String} {name : Str} {g : D → List D → HP → Option (D × HP)} (pa : PlainAttrs T) (slot : Slot T name id) (hty : typeOf (.builtin id) = pure (.type "method_descriptor")) (hm : MtR X id (rVm X.K X.mg g)) (ho : QE X W o ma) (ha : QA X W (e :: es) t)
    (hbase : attributeBase o name X.env (eval o X.env) = eval o X.env := by rfl)
    (hfew : ((backTo cpos (starEach (e :: es) X.env)).all (fun x => !x.1) && (backToKw cpos (keywordEach [] X.env)).all (fun x => x.1.isSome)
      && decide ((e :: es).length + ([] : List Keyword).length + (if ([] : List Keyword).isEmpty then 0 else 1) < 30)) = true := by rfl)
    (hline : (apos.endLine == cpos.line) = true := by rfl) (hs : starEach (e :: es) X.env = (false, eval e X.env) :: starEach es X.env := by rfl) (hplain : (backTo cpos (starEach es X.env)).any (·.1) = false := by rfl) :
    QE X W (.Call (.Attribute o name apos) (e :: es) [] cpos) (mMeth T g ma t) := (pe_bm pa slot hty hm ho ha hbase hfew hline hs hplain).imp fun σ H Q q => by
  obtain ⟨r, s, h, rp, rs, p⟩ := tM.bind (rr1 := rD) (m := ma) (k := fun s x h => bif tyB T x h then (t s h).bind fun xs h => ofO (g x xs h) else R.bad) q
  refine ⟨r, s, h, rp, rs, p.imp fun x H1 ⟨r1, s1, d, h1, rp1, rs1, rl1, p1⟩ => ?_⟩
  cases z : tyB T d h1 with
  | false => rw [z] at p1; exact p1.elim
  | true =>
    rw [z] at p1
    refine ⟨tyB_ok rp1 rl1 z, r1, s1, h1, rp1, rs1, (Post.bind (rr1 := rDs) p1).imp fun y H2 ⟨r2, ds, h2, e2, k2, rp2, rl2, p2⟩ => ?_⟩
    exact ⟨r2, d, ds, h2, rp2, rl1.mono e2 k2, rl2, p2.ofO⟩
def appendG : D → List D → HP → Option (D × HP) := fun x ds h => match x, ds with
  | .ref i, [d] => match h[i]? with
    | some (.lst xs) => if xs.length < 1000000 then some (.non, h.set i (.lst (xs ++ [d]))) else none
    | _ => none
  | _, _ => none
theorem mt_appendG : MtR X "list.append" (rVm X.K X.mg appendG) := by
  intro pins s σ H x xs v us Q I rx rv ⟨r, d, ds, h, rp, rl, rls, p⟩
  unfold appendG at p
  split at p
  · rename_i i d'
    obtain ⟨w, rfl, rd⟩ := one_of (ds := []) rls
    cases rl with
    | @ref i ad ea =>
      split at p
      · rename_i ys hy
        obtain ⟨vs, q, rly⟩ := rp.obs _ _ ad hy ea
        by_cases hz : ys.length < 1000000
        · rw [if_pos hz] at p
          have st := rp.set (u := .lst (vs ++ [w])) (o' := .lst (ys ++ [d'])) hy rfl rfl ea fun k => ⟨_, upd_same, (rly.mono (Ext.refl _) k).append (.cons (rd.mono (Ext.refl _) k) .nil)⟩
          exact mt_append pins s σ H _ _ v us Q I rx rv ⟨ad, vs, w, rfl, rfl, q, line_lt (by rw [← rly.length]; exact hz), p r .non _ (Ext.refl _) st.2 st.1 .non⟩
        · rw [if_neg hz] at p; exact p.elim
      · exact p.elim
  · exact p.elim
def extendG : D → List D → HP → Option (D × HP) := fun x ds h => match x, ds with
  | .ref i, [.ref j] => match h[i]?, h[j]? with
    | some (.lst xs), some (.lst ys) => if xs.length + ys.length ≤ 1000000 then some (.non, h.set i (.lst (xs ++ ys))) else none
    | _, _ => none
  | _, _ => none
theorem mt_extendG : MtR X "list.extend" (rVm X.K X.mg extendG) := by
  intro pins s σ H x xs v us Q I rx rv ⟨r, d, ds, h, rp, rl, rls, p⟩
  unfold extendG at p
  split at p
  · rename_i i j
    obtain ⟨w, rfl, rd⟩ := one_of (ds := []) rls
    cases rl with
    | @ref i ad ea =>
      cases rd with
      | @ref j bd eb =>
        split at p
        · rename_i ys zs hy hz'
          obtain ⟨vs, q, rly⟩ := rp.obs _ _ ad hy ea
          obtain ⟨ws, q2, rlz⟩ := rp.obs _ _ bd hz' eb
          by_cases hz : ys.length + zs.length ≤ 1000000
          · rw [if_pos hz] at p
            have st := rp.set (u := .lst (vs ++ ws)) (o' := .lst (ys ++ zs)) hy rfl rfl ea fun k => ⟨_, upd_same, (rly.mono (Ext.refl _) k).append (rlz.mono (Ext.refl _) k)⟩
            exact mt_extend pins s σ H _ _ v us Q I rx rv ⟨ad, bd, vs, ws, rfl, rfl, q, q2, line_of (by rw [← rly.length, ← rlz.length]; exact hz), p r .non _ (Ext.refl _) st.2 st.1 .non⟩
          · rw [if_neg hz] at p; exact p.elim
        · exact p.elim
  · exact p.elim
def splitG : D → List D → HP → Option (D × HP) := fun x ds h => match x, ds with
  | .str a, [.str b] => if (b.length == 0) = false ∧ a.length ≤ 1000000 then some (.ref h.length, h ++ [.lst ((Txt.split a b).map D.str)]) else none
  | _, _ => none
theorem mt_splitG : MtR X "str.split" (rVm X.K X.mg splitG) := by
  intro pins s σ H x xs v us Q I rx rv ⟨r, d, ds, h, rp, rl, rls, p⟩
  unfold splitG at p
  split at p
  · rename_i a b
    obtain ⟨w, rfl, rd⟩ := one_of (ds := []) rls
    cases rl
    cases rd
    by_cases hz : (b.length == 0) = false ∧ a.length ≤ 1000000
    · rw [if_pos hz] at p
      exact mt_split pins s σ H _ _ v us Q I rx rv ⟨a, b, rfl, rfl, hz.1, by have := hz.2; rw [sizeLine_eq]; omega, fun p' hp => p.lst rp (RelDs.strs _) hp⟩
    · rw [if_neg hz] at p; exact p.elim
  · exact p.elim
/-- a text's method of texts, whose answer is a plain value -/
def strG1 (g : Str → Str → D) : D → List D → HP → Option (D × HP) := fun x ds h => match x, ds with
  | .str a, [.str b] => some (g a b, h)
  | _, _ => none
theorem mt_strI {id : String} {g : Str → Str → Int} (m : MtR X id (fun x xs H Q => ∃ a b, x = .str a ∧ xs = [.str b] ∧ Q (.int (g a b)) H)) : MtR X id (rVm X.K X.mg (strG1 fun a b => .int (g a b))) := by
  intro pins s σ H x xs v us Q I rx rv ⟨r, d, ds, h, rp, rl, rls, p⟩
  unfold strG1 at p
  split at p
  · rename_i a b
    obtain ⟨w, rfl, rd⟩ := one_of (ds := []) rls
    cases rl
    cases rd
    exact m pins s σ H _ _ v us Q I rx rv ⟨a, b, rfl, rfl, p.here rp (.int _)⟩
  · exact p.elim
theorem mt_strB {id : String} {g : Str → Str → Bool} (m : MtR X id (fun x xs H Q => ∃ a b, x = .str a ∧ xs = [.str b] ∧ Q (.bl (g a b)) H)) : MtR X id (rVm X.K X.mg (strG1 fun a b => .bl (g a b))) := by
  intro pins s σ H x xs v us Q I rx rv ⟨r, d, ds, h, rp, rl, rls, p⟩
  unfold strG1 at p
  split at p
  · rename_i a b
    obtain ⟨w, rfl, rd⟩ := one_of (ds := []) rls
    cases rl
    cases rd
    exact m pins s σ H _ _ v us Q I rx rv ⟨a, b, rfl, rfl, p.here rp (.bl _)⟩
  · exact p.elim
def find4G : D → List D → HP → Option (D × HP) := fun x ds h => match x, ds with
  | .str a, [.str b, .int i, .int j] => some (.int (Txt.findIn a b i j), h)
  | _, _ => none
theorem mt_find4G : MtR X "str.find" (rVm X.K X.mg find4G) := by
  intro pins s σ H x xs v us Q I rx rv ⟨r, d, ds, h, rp, rl, rls, p⟩
  unfold find4G at p
  split at p
  · rename_i a b i j
    cases rl
    cases rls with
    | cons r1 rls =>
      cases rls with
      | cons r2 rls =>
        cases rls with
        | cons r3 rls =>
          cases rls
          cases r1; cases r2; cases r3
          exact mt_find4 pins s σ H _ _ v us Q I rx rv ⟨a, b, i, j, rfl, rfl, p.here rp (.int _)⟩
  · exact p.elim
end
end PM
end
section
set_option Elab.async false
set_option linter.all false
set_option maxRecDepth 100000
set_option maxHeartbeats 1000000
namespace PM
open PySem PySem.Spec PyProof.Rows L2

section
variable {X : Cx} {K : PySem.W.Frag} {mg : Str → Option Value} {r : List Addr} {H : Hp} {h : HP} {W : WX} {a b c e o i elt value : Expr} {es rest : List Expr} {ma mb mc : ME} {t : MA} {pos pos' apos cpos : Pos}

/-! ### dicts -/
def keyD : D → Option Key
  | .int i => some (.inl i)
  | .str x => some (.inr x)
  | _ => none
theorem key_rel {d : D} {v : V} {k : Key} (rl : RelD K mg r H d v) (e : keyD d = some k) : v = kV k := by
  cases rl <;> first | (cases e; rfl) | cases e
def getK {κ : Type} [DecidableEq κ] (kvs : List (κ × D)) (k : κ) : Option D := (kvs.find? fun kv => decide (kv.1 = k)).map (·.2)
def setK {κ : Type} [DecidableEq κ] (kvs : List (κ × D)) (k : κ) (d : D) : List (κ × D) :=
  if (kvs.any fun kv => decide (kv.1 = k)) = true then kvs.map (fun kv => if kv.1 = k then (kv.1, d) else kv) else kvs ++ [(k, d)]
theorem getK_rel {κ : Type} [DecidableEq κ] : ∀ {kvs : List (κ × D)} {vs : List (κ × V)} {k : κ} {d : D}, RelP K mg r H kvs vs → getK kvs k = some d → ∃ v, valV vs k = some v ∧ RelD K mg r H d v
  | _, _, _, _, .nil, e => by cases e
  | (k1, d1) :: kvs, (k2, v2) :: vs, k, d, .cons q t, e => by
    obtain ⟨q1, q2⟩ := q
    have q1 : k1 = k2 := q1
    subst q1
    by_cases hk : k1 = k
    · have e1 : getK ((k1, d1) :: kvs) k = some d1 := by simp [getK, List.find?_cons, hk]
      rw [e1] at e; cases e
      exact ⟨v2, valV_pos hk, q2⟩
    · have e1 : getK ((k1, d1) :: kvs) k = getK kvs k := by simp [getK, List.find?_cons, hk]
      rw [e1] at e
      obtain ⟨v, z1, z2⟩ := getK_rel t e
      exact ⟨v, by rw [valV_neg hk]; exact z1, z2⟩
theorem any_rel {κ : Type} [DecidableEq κ] : ∀ {kvs : List (κ × D)} {vs : List (κ × V)} {k : κ}, RelP K mg r H kvs vs → (kvs.any fun kv => decide (kv.1 = k)) = vs.any fun kv => decide (kv.1 = k)
  | _, _, _, .nil => rfl
  | _, _, k, .cons q t => by
    rw [List.any_cons, List.any_cons, any_rel t, q.1]
theorem map_rel {κ : Type} [DecidableEq κ] {k : κ} {d : D} {v : V} (rd : RelD K mg r H d v) : ∀ {kvs : List (κ × D)} {vs : List (κ × V)}, RelP K mg r H kvs vs → RelP K mg r H (kvs.map fun kv => if kv.1 = k then (kv.1, d) else kv) (vs.map fun kv => if kv.1 = k then (kv.1, v) else kv)
  | _, _, .nil => .nil
  | kv :: kvs, vv :: vs, .cons q t => by
    rw [List.map_cons, List.map_cons]
    refine .cons ?_ (map_rel rd t)
    by_cases hk : kv.1 = k
    · rw [if_pos hk, if_pos (q.1 ▸ hk)]; exact ⟨q.1, rd⟩
    · rw [if_neg hk, if_neg (q.1 ▸ hk)]; exact q
theorem snoc_rel {κ : Type} [DecidableEq κ] {k : κ} {d : D} {v : V} (rd : RelD K mg r H d v) : ∀ {kvs : List (κ × D)} {vs : List (κ × V)}, RelP K mg r H kvs vs → RelP K mg r H (kvs ++ [(k, d)]) (vs ++ [(k, v)])
  | _, _, .nil => .cons ⟨rfl, rd⟩ .nil
  | _, _, .cons q t => .cons q (snoc_rel rd t)
theorem setK_rel {κ : Type} [DecidableEq κ] {k : κ} {d : D} {v : V} (rd : RelD K mg r H d v) {kvs : List (κ × D)} {vs : List (κ × V)} (q : RelP K mg r H kvs vs) : RelP K mg r H (setK kvs k d) (putK vs k v) := by
  unfold setK putK
  rw [any_rel q]
  by_cases hz : (vs.any fun kv => decide (kv.1 = k)) = true
  · rw [if_pos hz, if_pos hz]; exact map_rel rd q
  · rw [if_neg hz, if_neg hz]; exact snoc_rel rd q
theorem len_rel {κ : Type} : ∀ {kvs : List (κ × D)} {vs : List (κ × V)}, RelP K mg r H kvs vs → kvs.length = vs.length
  | _, _, .nil => rfl
  | _, _, .cons _ t => by rw [List.length_cons, List.length_cons, len_rel t]
/-- x[y]: of a text, a tuple, a list, a dict -/
def itemG : D → D → HP → Option (D × HP) := fun x y h => match x with
  | .ref j => match h[j]? with
    | some (.dic kvs) => (keyD y).bind fun k => (getK kvs k).map fun d => (d, h)
    | _ => ixG x y h
  | _ => ixG x y h
theorem qe_sub (hu : X.A.units + 1 < cLine) (ha : QE X W a ma) (hb : QE X W b mb) (hs : PlainIx b := by exact fun _ _ => rfl) (hs2 : NoSl b := by exact fun _ _ => rfl) : QE X W (.Subscript a b pos) (m2 itemG ma mb) := by
  have h1 := pe_ix (pos := pos) ix_G ha hb hs
  have h2 := pe_dget (pos := pos) hu ha hb hs2
  refine ⟨fun pins s σ H Q I q => ?_⟩
  obtain ⟨r0, s0, h0, rp0, rs0, p0⟩ := q
  -- is it a dict?
  by_cases hd : ∃ x h1 y h2 j kvs, ma s0 h0 = .ok x h1 ∧ mb s0 h1 = .ok y h2 ∧ x = .ref j ∧ h2[j]? = some (.dic kvs)
  · refine h2.run pins s σ H Q I ?_
    obtain ⟨x, h1, y, h2, j, kvs, e1, e2, rfl, e4⟩ := hd
    refine ⟨r0, s0, h0, rp0, rs0, ?_⟩
    have p1 : Post X.K X.mg rD W r0 σ H Q ((mb s0 h1).bind fun y h => ofO (itemG (.ref j) y h)) := by
      have z : m2 itemG ma mb s0 h0 = (mb s0 h1).bind fun y h => ofO (itemG (.ref j) y h) := by unfold m2; rw [e1]; rfl
      rw [← z]; exact p0
    rw [e1]
    intro r1 v H1 x1 k1 rp1 rl1
    refine ⟨r1, s0, h1, rp1, rs0.mono x1 k1, ?_⟩
    rw [e2] at p1 ⊢
    have p2 : Post X.K X.mg rD W r0 σ H Q (ofO (itemG (.ref j) y h2)) := p1
    have p3 := p2.ofO
    unfold itemG at p3
    dsimp only at p3
    rw [e4] at p3
    dsimp only at p3
    intro r2 u H2 x2 k2 rp2 rl2
    cases z : keyD y with
    | none => rw [z] at p3; exact p3.elim
    | some k =>
      rw [z] at p3
      have p3 : PostV X.K X.mg r0 H Q ((getK kvs k).map fun d => (d, h2)) := p3
      cases z2 : getK kvs k with
      | none => rw [z2] at p3; exact p3.elim
      | some d =>
        rw [z2] at p3
        cases rl1 with
        | ref ea =>
          obtain ⟨vs, q, rlv⟩ := rp2.obs _ _ _ e4 (x2.get ea)
          obtain ⟨v', z3, z4⟩ := getK_rel rlv z2
          refine ⟨_, v', rfl, ?_, p3 r2 v' H2 (x1.trans x2) (k1.trans k2) rp2 z4⟩
          rw [key_rel rl2 z, ← z3]
          exact DGet.k q
  · refine h1.run pins s σ H Q I (two ⟨r0, s0, h0, rp0, rs0, ?_⟩)
    have z : m2 itemG ma mb s0 h0 = m2 ixG ma mb s0 h0 := by
      unfold m2
      cases e1 : ma s0 h0 with
      | ok x h1 =>
        show ((mb s0 h1).bind fun y h => ofO (itemG x y h)) = (mb s0 h1).bind fun y h => ofO (ixG x y h)
        cases e2 : mb s0 h1 with
        | ok y h2 =>
          show ofO (itemG x y h2) = ofO (ixG x y h2)
          congr 1
          unfold itemG
          cases x with
          | ref j =>
            dsimp only
            split
            · rename_i kvs e4
              exact absurd ⟨_, h1, y, h2, j, kvs, e1, e2, rfl, e4⟩ hd
            · rfl
          | _ => rfl
        | exc c fs h2 => rfl
        | bad => rfl
      | exc c fs h1 => rfl
      | bad => rfl
    rw [← z]; exact p0
/-- x[y] = value, x a dict or a list: the value first -/
def putG : D → D → D → HP → Option HP := fun x y v h => match x with
  | .ref j => match h[j]? with
    | some (.dic kvs) => (keyD y).bind fun k => if kvs.length < 1000000 then some (h.set j (.dic (setK kvs k v))) else none
    | _ => none
  | _ => none
def mPutD (mv mo mi : ME) : MS := fun s h => (mv s h).toS s fun v h => (mo s h).toS s fun x h => (mi s h).toS s fun y h => match putG x y v h with
  | some h => .nx s h
  | none => .bad
theorem qs_putD {mv mo mi : ME} (hu : X.A.units + 1 < cLine) (hv : QE X W value mv) (ho : QE X W o mo) (hi : QE X W i mi) (hs : swapsWith value (some (.Subscript o i pos')) pos.line X.env = pure false := by rfl) : QS X W (.Assign [.Subscript o i pos'] value pos) (mPutD mv mo mi) :=
  (ps_dput hu ho hi hv hs).imp fun D0 σ H q => by
    obtain ⟨r, s, h, rp, rs, p⟩ := q
    unfold mPutD at p
    refine ⟨r, s, h, rp, rs, (PostS.ofE (rr := rD) rs p).imp fun v H1 ⟨r1, dv, h1, e1, k1, rp1, rl1, p1⟩ => ?_⟩
    have rs1 := rs.mono e1 k1
    refine ⟨r1, s, h1, rp1, rs1, (PostS.ofE (rr := rD) rs1 p1).imp fun x H2 ⟨r2, dx, h2, e2, k2, rp2, rl2, p2⟩ => ?_⟩
    have rs2 := rs1.mono e2 k2
    refine ⟨r2, s, h2, rp2, rs2, (PostS.ofE (rr := rD) rs2 p2).imp fun y H3 ⟨r3, dy, h3, e3, k3, rp3, rl3, p3⟩ => ?_⟩
    have rs3 := rs2.mono e3 k3
    have rl1 := (RelD.mono e2 k2 rl1).mono e3 k3
    have rl2 := RelD.mono e3 k3 rl2
    cases z : putG dx dy dv h3 with
    | none => rw [z] at p3; exact p3.elim
    | some h4 =>
      rw [z] at p3
      unfold putG at z
      cases rl2 with
      | @ref j ad ea =>
        dsimp only at z
        split at z
        · rename_i kvs hk
          cases z2 : keyD dy with
          | none => rw [z2] at z; cases z
          | some k =>
            rw [z2] at z
            have z : (if kvs.length < 1000000 then some (h3.set j (.dic (setK kvs k dv))) else none) = some h4 := z
            by_cases hz : kvs.length < 1000000
            · rw [if_pos hz] at z
              cases z
              obtain ⟨vs, q, rlv⟩ := rp3.obs _ _ ad hk ea
              have st := rp3.set (u := .dK (putK vs k v)) (o' := .dic (setK kvs k dv)) hk rfl rfl ea fun kp => ⟨_, upd_same, setK_rel (rl1.mono (Ext.refl _) kp) (RelP.mono (Ext.refl _) kp rlv)⟩
              refine ⟨ad, _, rfl, by rw [key_rel rl3 z2]; exact DPut.k q (line_lt (by rw [← len_rel rlv]; exact hz)), ?_⟩
              exact p3 r3 σ _ (Ext.refl _) st.2 st.1 (rs3.mono (Ext.refl _) st.2)
            · rw [if_neg hz] at z; cases z
        · cases z
      | _ => cases z
/-- {k: v, ..} -/
def mPairs : List (ME × ME) → SD → HP → R (List (D × D))
  | [], _, h => .ok [] h
  | (mk, mv) :: r, s, h => (mk s h).bind fun x h => (mv s h).bind fun y h => (mPairs r s h).bind fun ps h => .ok ((x, y) :: ps) h
def keysD : List (D × D) → Option (List (Key × D))
  | [] => some []
  | (x, y) :: r => match keyD x, keysD r with
    | some k, some ps => some ((k, y) :: ps)
    | _, _ => none
def mergeD (kvs more : List (Key × D)) : List (Key × D) := more.foldl (fun acc kv => setK acc kv.1 kv.2) kvs
def isDic0 : Option Ob → Bool
  | some (.dic []) => true
  | _ => false
def mDisp (ps : List (ME × ME)) : ME := fun s h => (mPairs ps s (h ++ [.dic []])).bind fun qs h2 => match keysD qs with
  | some kvs => bif isDic0 h2[h.length]? && decide (kvs.length ≤ 15) then .ok (.ref h.length) (h2.set h.length (.dic (mergeD [] kvs))) else .bad
  | none => .bad
def rDD : RR (List (D × D)) (List (V × V)) := ⟨fun K mg r H => Paired fun p q => RelD K mg r H p.1 q.1 ∧ RelD K mg r H p.2 q.2, fun e k h => L2.Paired.mapP h fun p q z => ⟨z.1.mono e k, z.2.mono e k⟩⟩
def QP (X : Cx) (W : WX) (pos : Pos) (keys : List (Option Expr)) (values : List Expr) (ms : List (ME × ME)) : Prop := PPs X pos keys values (ms.map fun p => (tM X.K X.mg rD W p.1, tM X.K X.mg rD W p.2))
theorem qp_nil : QP X W pos [] [] [] := pps_nil
theorem qp_cons {ks : List (Option Expr)} {vs : List Expr} {ms : List (ME × ME)} (hk : QE X W a ma) (hv : QE X W b mb) (hr : QP X W pos ks vs ms) : QP X W pos (some a :: ks) (b :: vs) ((ma, mb) :: ms) := pps_cons hk hv hr
theorem pairs_run {σ : L2.St} : ∀ (ms : List (ME × ME)) {r : List Addr} {s : SD} {h : HP} {H : Hp} {Q : List (V × V) → Hp → Prop}, Rep K mg r h H → RelSt K mg r H s σ → Post K mg rDD W r σ H Q (mPairs ms s h) →
    tPairs (ms.map fun p => (tM K mg rD W p.1, tM K mg rD W p.2)) σ H Q
  | [], r, s, h, H, Q, rp, rs, p => Post.here (rr := rDD) p rp .nil
  | (mk, mv) :: ms, r, s, h, H, Q, rp, rs, p => by
    unfold mPairs at p
    refine ⟨r, s, h, rp, rs, (Post.bind (rr1 := rD) p).imp fun x H1 ⟨r1, dx, h1, e1, k1, rp1, rl1, p1⟩ => ?_⟩
    refine ⟨r1, s, h1, rp1, rs.mono e1 k1, (Post.bind (rr1 := rD) p1).imp fun y H2 ⟨r2, dy, h2, e2, k2, rp2, rl2, p2⟩ => ?_⟩
    refine pairs_run ms rp2 ((rs.mono e1 k1).mono e2 k2) ((Post.bind (rr1 := rDD) p2).imp fun ps H3 ⟨r3, qs, h3, e3, k3, rp3, rl3, p3⟩ => ?_)
    exact Post.here (rr := rDD) p3 rp3 (.cons ⟨(RelD.mono e2 k2 rl1).mono e3 k3, RelD.mono e3 k3 rl2⟩ rl3)
theorem keysD_rel : ∀ {qs : List (D × D)} {ps : List (V × V)} {kvs : List (Key × D)}, Paired (fun p q => RelD K mg r H p.1 q.1 ∧ RelD K mg r H p.2 q.2) qs ps → keysD qs = some kvs → ∃ vs : List (Key × V), ps = vs.map (fun kv => (kV kv.1, kv.2)) ∧ RelP K mg r H kvs vs
  | _, _, _, .nil, e => by cases e; exact ⟨[], rfl, .nil⟩
  | (x, y) :: qs, (u, w) :: ps, kvs, .cons q t, e => by
    unfold keysD at e
    cases z1 : keyD x with
    | none => rw [z1] at e; cases e
    | some k =>
      cases z2 : keysD qs with
      | none => rw [z1, z2] at e; cases e
      | some kvs' =>
        rw [z1, z2] at e
        cases e
        obtain ⟨vs, z3, z4⟩ := keysD_rel t z2
        have z5 : u = kV k := key_rel q.1 z1
        subst z5 z3
        exact ⟨(k, w) :: vs, rfl, .cons ⟨rfl, q.2⟩ z4⟩
theorem mergeD_rel : ∀ {more : List (Key × D)} {mvs : List (Key × V)} {kvs : List (Key × D)} {vs : List (Key × V)}, RelP K mg r H more mvs → RelP K mg r H kvs vs → RelP K mg r H (mergeD kvs more) (mergeK vs mvs)
  | _, _, _, _, .nil, q => q
  | _, _, _, _, .cons p t, q => by
    unfold mergeD mergeK
    rw [List.foldl_cons, List.foldl_cons, p.1]
    exact mergeD_rel t (setK_rel p.2 q)
theorem qe_disp {keys : List (Option Expr)} {values : List Expr} {ms : List (ME × ME)} (hp : QP X W pos keys values ms) (hall : keys.all (·.isSome) = true := by rfl) (hl : keys.length = values.length := by rfl) (h0 : keys ≠ [] := by exact fun z => by cases z)
    (h15 : keys.length ≤ 15 := by decide) : QE X W (.Dict keys values pos) (mDisp ms) := (pe_disp hp hall hl h0 h15).imp fun σ H Q q => by
  obtain ⟨r, s, h, rp, rs, p⟩ := q
  intro ad hn
  have kn : Keep H (upd H ad (.dK [])) := Keep.new hn
  have rp1 : Rep X.K X.mg (r ++ [ad]) (h ++ [.dic []]) (upd H ad (.dK [])) := rp.new hn ⟨[], upd_same, .nil⟩
  have p1 := Post.mono p (Ext.one r ad) kn
  unfold mDisp at p1
  refine pairs_run ms rp1 (rs.mono (Ext.one r ad) kn) ((Post.bind (rr1 := rDD) p1).imp fun ps H2 ⟨r2, qs, h2, e2, k2, rp2, rl2, p2⟩ => ?_)
  cases z : keysD qs with
  | none => rw [z] at p2; exact p2.elim
  | some kvs =>
    rw [z] at p2
    dsimp only at p2
    cases z2 : isDic0 h2[h.length]? && decide (kvs.length ≤ 15) with
    | false => rw [z2] at p2; exact p2.elim
    | true =>
      rw [z2] at p2
      obtain ⟨z3, z4⟩ := Bool.and_eq_true_iff.mp z2
      have z5 : h2[h.length]? = some (.dic []) := by
        unfold isDic0 at z3
        split at z3
        · assumption
        · cases z3
      have ea : r2[h.length]? = some ad := e2.get (by rw [List.getElem?_append_right (by rw [rp.len]; exact Nat.le_refl _), rp.len]; simp)
      obtain ⟨vs0, q0, rl0⟩ := rp2.obs _ _ ad z5 ea
      cases rl0
      obtain ⟨vs, z6, z7⟩ := keysD_rel rl2 z
      refine ⟨q0, vs, z6, by rw [← len_rel z7]; exact of_decide_eq_true z4, ?_⟩
      have st := rp2.set (u := .dK (mergeK [] vs)) (o' := .dic (mergeD [] kvs)) z5 rfl rfl ea fun kp => ⟨_, upd_same, mergeD_rel (RelP.mono (Ext.refl _) kp z7) .nil⟩
      exact p2 r2 _ _ (Ext.refl _) st.2 st.1 (.ref ea)
/-- {} with keys to come: numbers, texts -/
def mDict0 : ME := fun _ h => .ok (.ref h.length) (h ++ [.dic []])
theorem qe_dict0 : QE X W (.Dict [] [] pos) mDict0 := pe_dnewK.imp fun σ H Q ⟨r, s, h, rp, rs, p⟩ => by
  intro ad hn
  refine p (r ++ [ad]) _ _ (Ext.one r ad) (Keep.new hn) (rp.new hn ⟨[], upd_same, .nil⟩) (.ref ?_)
  rw [List.getElem?_append_right (by rw [rp.len]; exact Nat.le_refl _), rp.len]; simp

/-! ### comprehensions over one name -/
abbrev W0 : WX := fun _ _ _ _ => False
def mYes : MT := fun _ h => .ok true h
abbrev QTs (X : Cx) (ifs : List Expr) (m : MT) : Prop := PTs X ifs (tM X.K X.mg rB W0 m)
theorem _root_.L2.PTs.imp {X : Cx} {e : List Expr} {t t' : TT} (h : PTs X e t) (f : ∀ σ H Q, t' σ H Q → t σ H Q) : PTs X e t' := ⟨fun pins s σ H Q I q => h.run pins s σ H Q I (f σ H Q q)⟩
theorem qts_nil : QTs X [] mYes := pts_nil.imp fun σ H Q ⟨r, s, h, rp, rs, p⟩ => Post.here (rr := rB) p rp rfl
theorem qts_one {m : MT} (hc : QT X W0 c m) : QTs X [c] m := pts_one hc
open Classical in
noncomputable def lcLoop (G : HP → Prop) (i : Nat) (c : MT) (el : ME) (n : Nat) : List D → SD → HP → R D
  | [], _, h => if G h then .ok (.ref n) h else .bad
  | d :: ds, s, h => if G h then (match c (s.set i (some d)) h with
    | .ok true h => (match el (s.set i (some d)) h with
      | .ok y h => (match h[n]? with
        | some (.lst acc) => if acc.length < 1000000 then lcLoop G i c el n ds s (h.set n (.lst (acc ++ [y]))) else .bad
        | _ => .bad)
      | _ => .bad)
    | .ok false h => lcLoop G i c el n ds s h
    | _ => .bad) else .bad
noncomputable def mLc (it : MI) (i : Nat) (c : MT) (el : ME) : ME := fun s h => (it s h).bind fun x h => lcLoop x.2 i c el h.length x.1 (s.set i none) (h ++ [.lst []])
theorem set_set {α : Type} : ∀ (l : List α) (i : Nat) (x y : α), (l.set i x).set i y = l.set i y
  | [], _, _, _ => rfl
  | _ :: _, 0, _, _ => rfl
  | a :: l, i + 1, x, y => by simp
theorem qe_lc {tg iter : Expr} {ifs : List Expr} {scope : Scope} {x : Str} {i : Nat} {mi : MI} {m : MT} (hc : X.calm = true) (hN : X.N.Nodup) (hi : QI X W tg iter mi) (ok : BlkOk X.N X.env.scope scope [(x, i)])
    (hg : ∀ (s : Shared) (H : Hp) (C : Addr) (cl : List (Str × Addr)) (fp : List Addr), PG (X.blk s H scope (compEnvC scope cl C X.env) fp) tg (gName i)) (ht : ∀ (s : Shared) (H : Hp) (C : Addr) (cl : List (Str × Addr)) (fp : List Addr), QTs (X.blk s H scope (compEnvC scope cl C X.env) fp) ifs m)
    (he : ∀ (s : Shared) (H : Hp) (C : Addr) (cl : List (Str × Addr)) (fp : List Addr), QE (X.blk s H scope (compEnvC scope cl C X.env) fp) W0 elt ma) (hs : ∀ x, foldedSetIterable iter X.env x = pure x := by intro _; rfl) :
    QE X W (.ListComp elt [⟨tg, iter, ifs, 0⟩] scope pos) (mLc mi i m ma) := (pe_lc (own := [(x, i)]) (tt := tM X.K X.mg rB W0 m) (te := tM X.K X.mg rD W0 ma) hc hN hi ok hg ht he hs).imp fun σ H Q q => by
  obtain ⟨r, s, h, rp, rs, p⟩ := q
  refine ⟨r, s, h, rp, rs, ?_⟩
  unfold mLc at p
  cases z : mi s h with
  | exc c fs h' => rw [z] at p; exact p
  | bad => rw [z] at p; exact p.elim
  | ok y h' =>
    rw [z] at p
    obtain ⟨ds, G⟩ := y
    have p : Post X.K X.mg rD W r σ H Q (lcLoop G i m ma h'.length ds (s.set i none) (h' ++ [.lst []])) := p
    intro r0 H0 J e0 k0 rp0 j Dl hn
    have kn : Keep H0 (upd H0 Dl (.lst [])) := Keep.new hn
    have rp1 : Rep X.K X.mg (r0 ++ [Dl]) (h' ++ [.lst []]) (upd H0 Dl (.lst [])) := rp0.new hn ⟨[], upd_same, .nil⟩
    have ea : (r0 ++ [Dl])[h'.length]? = some Dl := by rw [List.getElem?_append_right (by rw [rp0.len]; exact Nat.le_refl _), rp0.len]; simp
    have rs0 : RelSt X.K X.mg (r0 ++ [Dl]) (upd H0 Dl (.lst [])) (s.set i none) (wipe σ [i]) := ((rs.mono e0 k0).mono (Ext.one r0 Dl) kn).unset i
    refine ⟨fun n md H => md = ds.length - n ∧ ∃ r h, Ext (r0 ++ [Dl]) r ∧ Keep (upd H0 Dl (.lst [])) H ∧ Rep X.K X.mg r h H ∧ RelSt X.K X.mg r H (s.set i none) (wipe σ [i]) ∧ Post X.K X.mg rD W r σ H Q (lcLoop G i m ma h'.length (ds.drop n) (s.set i none) h), ⟨ds.length, by simp, r0 ++ [Dl], h' ++ [.lst []], Ext.refl _, Keep.refl _, rp1, rs0, by simpa using Post.mono (Post.mono p e0 k0) (Ext.one r0 Dl) kn⟩, ?_⟩
    rintro n md H1 ⟨rfl, r1, h1, e1, k1, rp1, rs1, p1⟩
    rcases Nat.lt_or_ge n ds.length with hlt | hge
    · rw [List.drop_eq_getElem_cons hlt] at p1
      unfold lcLoop at p1
      by_cases hG : G h1
      · rw [if_pos hG] at p1
        obtain ⟨j1, _⟩ := j n r1 H1 h1 ((Ext.one r0 Dl).trans e1) (kn.trans k1) rp1 hG
        obtain ⟨go, yl⟩ := j1 _ (List.getElem?_eq_getElem hlt)
        refine .inr ⟨go, fun H' => ∃ r h, Ext (r0 ++ [Dl]) r ∧ Keep (upd H0 Dl (.lst [])) H' ∧ Rep X.K X.mg r h H' ∧ RelSt X.K X.mg r H' (s.set i none) (wipe σ [i]) ∧ Post X.K X.mg rD W r σ H' Q (lcLoop G i m ma h'.length (ds.drop (n + 1)) (s.set i none) h), fun H' q => ⟨ds.length - (n + 1), by omega, rfl, q⟩, fun v H2 y2 => ?_⟩
        obtain ⟨k2, rp2, rl2⟩ := yl v H2 y2
        have rs2 := rs1.mono (Ext.refl _) k2
        have rs3 := rs2.set i rl2
        show wipe ((wipe σ [i]).set i (some v)) [i] = wipe σ [i] ∧ _
        refine ⟨by show ((σ.set i none).set i (some v)).set i none = σ.set i none; rw [set_set, set_set], ?_⟩
        have p2 := Post.mono p1 (Ext.refl _) k2
        refine ⟨r1, (s.set i none).set i (some ds[n]), h1, rp2, rs3, ?_⟩
        cases zc : m ((s.set i none).set i (some ds[n])) h1 with
        | exc c fs h3 => rw [zc] at p2; exact p2.elim
        | bad => rw [zc] at p2; exact p2.elim
        | ok bb h3 =>
          rw [zc] at p2
          intro r3 bb' H3 e3 k3 rp3 rlb
          have rlb : bb = bb' := rlb
          subst rlb
          cases bb with
          | false =>
            have p3 := Post.mono p2 e3 k3
            exact ⟨r3, h3, e1.trans e3, (k1.trans k2).trans k3, rp3, rs2.mono e3 k3, p3⟩
          | true =>
            refine ⟨r3, (s.set i none).set i (some ds[n]), h3, rp3, rs3.mono e3 k3, ?_⟩
            have p3 := Post.mono p2 e3 k3
            dsimp only at p3
            cases ze : ma ((s.set i none).set i (some ds[n])) h3 with
            | exc c fs h4 => rw [ze] at p3; exact p3.elim
            | bad => rw [ze] at p3; exact p3.elim
            | ok y h4 =>
              rw [ze] at p3
              intro r4 w H4 e4 k4 rp4 rly
              have p4 := Post.mono p3 e4 k4
              dsimp only at p4
              have ea4 : r4[h'.length]? = some Dl := e4.get (e3.get (e1.get ea))
              split at p4
              · rename_i acc hacc
                by_cases hz : acc.length < 1000000
                · rw [if_pos hz] at p4
                  obtain ⟨vs, qv, rlv⟩ := rp4.obs _ _ Dl hacc ea4
                  have st := rp4.set (u := .lst (vs ++ [w])) (o' := .lst (acc ++ [y])) hacc rfl rfl ea4 fun kp => ⟨_, upd_same, (rlv.mono (Ext.refl _) kp).append (.cons (RelD.mono (Ext.refl _) kp rly) .nil)⟩
                  refine ⟨vs, qv, line_lt (by rw [← rlv.length]; exact hz), r4, _, (e1.trans e3).trans e4, (((k1.trans k2).trans k3).trans k4).trans st.2, st.1, ((rs2.mono e3 k3).mono e4 k4).mono (Ext.refl _) st.2, ?_⟩
                  exact Post.mono p4 (Ext.refl _) st.2
                · rw [if_neg hz] at p4; exact p4.elim
              · exact p4.elim
      · rw [if_neg hG] at p1; exact p1.elim
    · rw [List.drop_eq_nil_of_le hge] at p1
      unfold lcLoop at p1
      by_cases hG : G h1
      · rw [if_pos hG] at p1
        refine .inl ⟨(j n r1 H1 h1 ((Ext.one r0 Dl).trans e1) (kn.trans k1) rp1 hG).2 hge, ?_⟩
        exact p1 r1 _ H1 (Ext.refl _) (Keep.refl _) rp1 (.ref (e1.get ea))
      · rw [if_neg hG] at p1; exact p1.elim
end
end PM
end
section
set_option Elab.async false
set_option linter.all false
set_option maxRecDepth 100000
set_option maxHeartbeats 1000000
namespace PM
open PySem PySem.Spec PyProof.Rows L2

abbrev FnP (K : PySem.W.Frag) (x : Str) (st : Stmt) (f : Addr) (fd : FuncData) : Prop := FunD K x x (defArgs st) (defBody st) (defScope st) [] [] f fd
/-- a def of the module, no defaults: all that calls of it ask -/
structure FnM (P : Program) (w : World) (K : PySem.W.Frag) (mg : Str → Option Value) (base : Heap) (k : Nat) (x : Str) (ps : List Str) (m : List D → HP → R D) : Prop where
  ex : ∃ f fd, mg x = some (.ref f) ∧ PySem.W.keepIn K (.ref f) = true ∧ Binds K fd ps [] ∧ FnOk P w K mg base (L2.CX P w) k f fd ps (spM K mg ps.length m)
theorem FnM.mono {P : Program} {w : World} {K : PySem.W.Frag} {mg : Str → Option Value} {base : Heap} {j k : Nat} {x : Str} {ps : List Str} {m : List D → HP → R D} (F : FnM P w K mg base j x ps m) (h : j ≤ k) : FnM P w K mg base k x ps m :=
  let ⟨f, fd, a, b, c, d⟩ := F.ex
  ⟨f, fd, a, b, c, d.mono h⟩
theorem fnOk_mk {P : Program} {w : World} {K : PySem.W.Frag} {mg : Str → Option Value} {base : Heap} {x : Str} {st : Stmt} {N ps : List Str} {k : Nat} {body : MS} {f : Addr} {fd : FuncData} (F : FnP K x st f fd) (S : FnScope N ps (defScope st))
    (hb : ∀ (cdv : Value) (A : Around) (outer : List Env) (s : Shared) (H : Hp) (E : XK), Room k (A.deeper (envOfC x (defScope st) s.heap.objs.size f cdv)) →
      QSs (cxOf (L2.CX P w) P w K mg base N x (defScope st) f cdv A outer s H E) (fun cls d _ H => E cls d H) (defBody st) body) : FnOk P w K mg base (L2.CX P w) (k + 1) f fd ps (spM K mg ps.length (runDef N.length body)) := by
  refine F.ok S (fun vs H Q E ⟨r, ds, h, rp, rl, hl, p⟩ => by rw [← rl.length]; exact hl) (fun cdv A outer s H vs Q E hr ⟨r, ds, h, rp, rl, hl, p⟩ => ?_)
  refine ⟨_, hb cdv A outer s H E hr, r, _, h, rp, relSt_start (N := N) rl, ?_⟩
  unfold runDef at p
  show PostS K mg _ r H _ (body (ds.map some ++ List.replicate (N.length - ds.length) none) h)
  cases z : body (ds.map some ++ List.replicate (N.length - ds.length) none) h with
  | nx s' h' => rw [z] at p; exact fun r' σ' H' e k rp' rs' => p r' .non H' e k rp' .non
  | rt d h' => rw [z] at p; exact fun r' v H' e k rp' rl' => p r' v H' e k rp' rl'
  | bk s' h' => rw [z] at p; exact p.elim
  | ct s' h' => rw [z] at p; exact p.elim
  | exc s' c fs h' => rw [z] at p; exact fun r' σ' cls dd H' e k rp' rs' xr => p r' cls dd H' e k rp' xr
  | bad => rw [z] at p; exact p.elim
theorem fnM_mk {P : Program} {w : World} {K : PySem.W.Frag} {mg : Str → Option Value} {base : Heap} {x : Str} {st : Stmt} {N ps : List Str} {k : Nat} {body : MS} {f : Addr} (F : ∃ fd, FnP K x st f fd) (gm : mg x = some (.ref f)) (S : FnScope N ps (defScope st))
    (bi : ∀ (kV doc pm : Value) (an : Option Addr) (cdv ct : Value) (us : List Value), us.length = ps.length → bindArgs (PySem.W.fnOf x x (defArgs st) (defBody st) (defScope st) .none kV doc pm an cdv ct) ⟨us, []⟩ = pure (ps.zip us))
    (hb : ∀ (cdv : Value) (A : Around) (outer : List Env) (s : Shared) (H : Hp) (E : XK), Room k (A.deeper (envOfC x (defScope st) s.heap.objs.size f cdv)) →
      QSs (cxOf (L2.CX P w) P w K mg base N x (defScope st) f cdv A outer s H E) (fun cls d _ H => E cls d H) (defBody st) body) : FnM P w K mg base (k + 1) x ps (runDef N.length body) := by
  obtain ⟨fd, F⟩ := F
  exact ⟨f, fd, gm, F.kp, FunD.bindsN F bi, fnOk_mk F S hb⟩
section
variable {X : Cx} {W : WX} {e : Expr} {es : List Expr} {t : MA} {pos : Pos} {x : Str} {p : Pos} {k : Nat} {ps : List Str} {m : List D → HP → R D}
theorem qf (F : FnM X.prog X.w X.K X.mg X.base k x ps m) (tk : Takes X W) (hr : Room k X.A) (hg : Gl X x) (hnp : ps.length = (e :: es).length) (ha : QA X W (e :: es) t) (ht : ∀ s h ds h', t s h = .ok ds h' → ds.length = (e :: es).length) (hdb : (x == ("__debug__" : Str)) = false := by decide) (he : starEach (e :: es) X.env = (false, eval e X.env) :: starEach es X.env := by rfl) (hpl : (backTo pos (starEach es X.env)).any (·.1) = false := by rfl) :
    QE X W (.Call (.Name x p) (e :: es) [] pos) (mCall m t) := by
  obtain ⟨f, fd, gm, kp, b, F⟩ := F.ex
  exact qe_call F hnp tk hr hg gm kp b ha ht hdb he hpl
theorem qf0 (F : FnM X.prog X.w X.K X.mg X.base k x [] m) (tk : Takes X W) (hr : Room k X.A) (hg : Gl X x) (hdb : (x == ("__debug__" : Str)) = false := by decide) : QE X W (.Call (.Name x p) [] [] pos) (mCall m mNil) := by
  obtain ⟨f, fd, gm, kp, b, F⟩ := F.ex
  exact qe_call0 F tk hr hg gm kp b hdb
end

/-! ### constants of the module -/
def constN : Nat → PySem.W.Frag → D → Value → Bool
  | 0, _, _, _ => false
  | n + 1, K, d, u => match d, u with
    | .non, .none => true
    | .bl b, .bool c => b == c
    | .int i, .int j _ => decide (i = j)
    | .str x, .str y _ => decide (x = y)
    | .stp xs, .ref a => (match K.lookup a with
      | some ⟨.type c, none, .seq its _, _⟩ => decide (c = "tuple") && (decide (its.size ≤ sizeLine) && allN (constN n K) xs its.toList)
      | _ => false)
    | _, _ => false
where allN (f : D → Value → Bool) : List D → List Value → Bool
  | [], [] => true
  | d :: ds, u :: us => f d u && allN f ds us
  | _, _ => false
def ConstV (K : PySem.W.Frag) (mg : Str → Option Value) (d : D) (u : Value) : Prop := ∃ v, RelV v u ∧ ∀ r H, RelD K mg r H d v
theorem allN_ok {K : PySem.W.Frag} {mg : Str → Option Value} {f : D → Value → Bool} (hf : ∀ d u, f d u = true → ConstV K mg d u) : ∀ {ds : List D} {us : List Value}, constN.allN f ds us = true → ∃ vs, Vals vs us ∧ ∀ r H, RelDs K mg r H ds vs
  | [], [], _ => ⟨[], .nil, fun _ _ => .nil⟩
  | [], _ :: _, h => by cases h
  | _ :: _, [], h => by cases h
  | d :: ds, u :: us, h => by
    obtain ⟨h1, h2⟩ := Bool.and_eq_true_iff.mp (show (f d u && constN.allN f ds us) = true from h)
    obtain ⟨v, a, b⟩ := hf d u h1
    obtain ⟨vs, c, e⟩ := allN_ok hf h2
    exact ⟨v :: vs, .cons a c, fun r H => .cons (b r H) (e r H)⟩
theorem constN_ok {K : PySem.W.Frag} {mg : Str → Option Value} : ∀ (n : Nat) (d : D) (u : Value), constN n K d u = true → ConstV K mg d u
  | 0, _, _, h => by cases h
  | n + 1, d, u, h => by
    unfold constN at h
    split at h
    · exact ⟨.non, rfl, fun _ _ => .non⟩
    · rename_i b c; rw [beq_iff_eq.mp h]; exact ⟨.bl c, rfl, fun _ _ => .bl c⟩
    · rename_i i j t; rw [of_decide_eq_true h]; exact ⟨.int j, ⟨t, rfl⟩, fun _ _ => .int j⟩
    · rename_i x y t; rw [of_decide_eq_true h]; exact ⟨.str y, ⟨t, rfl⟩, fun _ _ => .str y⟩
    · rename_i xs a
      split at h
      · rename_i c its n' sl hk
        obtain ⟨h1, h2⟩ := Bool.and_eq_true_iff.mp h
        obtain ⟨h3, h4⟩ := Bool.and_eq_true_iff.mp h2
        obtain ⟨vs, q1, q2⟩ := allN_ok (mg := mg) (fun d u => constN_ok n d u) h4
        refine ⟨.ref a, rfl, fun r H => .stp (.inr ⟨_, its, n', hk, congrArg Value.type (of_decide_eq_true h1), rfl, of_decide_eq_true h3, q1, rfl⟩) (q2 r H)⟩
      · cases h
    · cases h
def constB (K : PySem.W.Frag) (q : Str × D) : Bool := match PySem.W.nsIn K mainGlobals q.1 with
  | some (some u) => constN 8 K q.2 u
  | _ => false
def GConst (K : PySem.W.Frag) (mg : Str → Option Value) (x : Str) (d : D) : Prop := ∃ u, mg x = some u ∧ ConstV K mg d u
theorem constB_ok {K : PySem.W.Frag} {mg : Str → Option Value} {h : Heap} {q : Str × D} (X : K.In h) (G : h.Ns mainGlobals mg) (c : constB K q = true) : GConst K mg q.1 q.2 := by
  unfold constB at c
  cases e : PySem.W.nsIn K mainGlobals q.1 with
  | none => rw [e] at c; cases c
  | some o =>
    rw [e] at c
    cases o with
    | none => cases c
    | some u => exact ⟨u, PySem.W.mg_of X G e, constN_ok 8 _ _ c⟩
theorem qe_gc {X : Cx} {W : WX} {x : Str} {d : D} {pos : Pos} (hg : Gl X x) (g : GConst X.K X.mg x d) (hd : (x == ("__debug__" : Str)) = false := by decide) : QE X W (.Name x pos) (mC d) := by
  obtain ⟨u, hm, v, rv, q⟩ := g
  exact qe_const (pe_glob (v := v) hg hm rv hd) q
end PM
namespace PM
open PySem PySem.Spec PyProof.Rows L2
def negG : D → HP → Option (D × HP) := fun x h => match x with
  | .int i => some (.int (-i), h)
  | _ => none
theorem un_negG {X : Cx} : UnR X (unaryOp .USub) (rV1 X.K X.mg negG) := by
  intro pins s σ H x v Q I rx ⟨r, a, h, rp, ra, p⟩
  unfold negG at p
  cases ra with
  | int i => exact un_neg pins s σ H _ v Q I rx ⟨i, rfl, p.here rp (.int _)⟩
  | _ => exact p.elim
def iaddG : D → D → HP → Option (D × HP) := fun x y h => match x, y with
  | .int i, .int j => some (.int (i + j), h)
  | .str a, .str b => if a.length + b.length ≤ 1000000 then some (.str (a ++ b), h) else none
  | _, _ => none
theorem iop_iaddG {X : Cx} : OpR X (inplaceOp .Add) (rV2 X.K X.mg iaddG) := iop_addG

/-! the law's end -/
theorem cx_no {P : Program} {w : World} (H : Hp) (s : Shared) (e : Value) (s' : Shared) (h : L2.CX P w [] H s (fun _ _ _ => False) e s') : False := by
  obtain ⟨_, _, _, _, _, _, _, _, _, _, _, _, z⟩ := h
  exact z
theorem rep_script {K : PySem.W.Frag} {mg : Str → Option Value} {H : Hp} {a : Addr} {ns : List Int} (q : (∃ ob, H a = some (.frz ob (.lst (ns.map V.int)))) ∨ SqL K (fun _ => none) a (ns.map V.int)) : Rep K mg [a] [.rdl (ns.map D.int)] H := by
  refine ⟨rfl, fun i o b e1 e2 => ?_, fun i j b oi oj e1 e2 m1 m2 e3 e4 => ?_⟩
  · cases i with
    | zero =>
      cases e1; cases e2
      exact ⟨_, q, RelDs.ints ns⟩
    | succ i => cases e1
  · cases i with
    | zero => cases e1; cases m1
    | succ i => cases e1
/-- the law's promise from its plain program -/
theorem law_end {K : PySem.W.Frag} {mg : Str → Option Value} {m : List D → HP → R D} {H : Hp} {a : Addr} {ns : List Int} (hm : ∃ h', m [.ref 0] [.rdl (ns.map D.int)] = .ok (.bl true) h') (hO : Only H) (hS : SqL K H a (ns.map V.int)) :
    spM K mg 1 m [.ref a] H (fun v _ => v = .bl true) fun _ _ _ => False := by
  obtain ⟨h', e⟩ := hm
  refine ⟨[a], [.ref 0], [.rdl (ns.map D.int)], rep_script ?_, .cons (.ref rfl) .nil, rfl, ?_⟩
  · rcases hS with (q | ⟨ob, q⟩) | q
    · rcases hO a with z | ⟨ob, xs, z⟩
      · rw [q] at z; cases z
      · rw [q] at z; cases z
    · exact .inl ⟨ob, q⟩
    · exact .inr (.inr q)
  · rw [e]
    intro r' v H' _ _ _ rl
    cases rl
    rfl
/-- the end of a law's row: K, the law's def by its plain program, what that gives -/
theorem walk_pm {l : PySem.W.OpenLaw} {k : Nat} {q : Program} {loose : List Str} {XP : (Str → Option Value) → Heap → Prop} {YP : World → Heap → Prop} {d : DefRec} {m : List D → HP → R D}
    (hn : l.most = some 63) (hdf : d.params.defaults = []) (hr : Room k callerA)
    (F : ∀ (w : World) (mg : Str → Option Value) (fa : Addr) (h : Heap), YP w h → h.Ns mainGlobals mg → mg d.name = some (.ref fa) →
      ∃ (K : PySem.W.Frag) (fd : FuncData), K.In h ∧ (∀ (s : Shared) (u : Value), BindsTo s fd ⟨[u], []⟩ [("script", u)]) ∧ ∀ base : Heap, FnOk l.prog w K mg base (L2.CX l.prog w) k fa fd ["script"] (spM K mg 1 m))
    (main : ∀ ns : List Int, ns.length ≤ 63 → (∀ z ∈ ns, Builtin.Int.intBits z ≤ 1048576) → ∃ h', m [.ref 0] [.rdl (ns.map D.int)] = .ok (.bl true) h') :
    PySem.W.WalkO q loose XP YP l.row.toRowW d [] (fun f vs => PySem.call f vs) := by
  refine Att.attach_callB hn hdf fun w s0 s1 mg mb fa o pm cd doc a vs ns G Y ho hd hcd hmg hobj hints hlen hbits hg => ?_
  obtain ⟨K, fd, KX, hb, hF⟩ := F w mg fa _ Y G.T.g hmg
  refine law_call KX G.T.g G.T.b G.T.builtins G.T.nolimit hg hobj hints (line_of (by omega)) hr (fun base _ _ => hF base) hb (fun H hO hS => ?_) fun H e s' => cx_no H s1 e s'
  exact law_end (main ns hlen hbits) hO hS
end PM
end
section
set_option Elab.async false
set_option linter.all false
set_option maxRecDepth 100000
set_option maxHeartbeats 1000000
/-! the plain layer run step by step: rows for simp, each for a step that is fully applied -/
namespace PM
open PySem L2
section
variable {α β : Type} {s : SD} {h : HP} {a b c : ME} {ta tb : MT} {t : MA} {p q : MS} {i n : Nat} {d x y : D} {ds : List D}
theorem bind_ok {a : α} {k : α → HP → R β} : (R.ok a h).bind k = k a h := (rfl)
theorem toS_ok {a : α} {k : α → HP → RS} : (R.ok a h).toS s k = k a h := (rfl)
theorem seq_nx {k : SD → HP → RS} : (RS.nx s h).seq k = k s h := (rfl)
theorem seq_rt {k : SD → HP → RS} : (RS.rt d h).seq k = .rt d h := (rfl)
theorem seq_bk {k : SD → HP → RS} : (RS.bk s h).seq k = .bk s h := (rfl)
theorem seq_ct {k : SD → HP → RS} : (RS.ct s h).seq k = .ct s h := (rfl)
theorem seq_exc {k : SD → HP → RS} {c fs} : (RS.exc s c fs h).seq k = .exc s c fs h := (rfl)
theorem bind_exc {k : α → HP → R β} {c fs} : (R.exc c fs h : R α).bind k = .exc c fs h := (rfl)
theorem toS_exc {k : α → HP → RS} {c fs} : (R.exc c fs h : R α).toS s k = .exc s c fs h := (rfl)
theorem mSeq_ap : mSeq p q s h = (p s h).seq q := (rfl)
theorem mNext_ap : mNext s h = .nx s h := (rfl)
def kSet (i : Nat) (s : SD) (d : D) (h : HP) : RS := .nx (s.set i (some d)) h
theorem mSet_ap : mSet i a s h = (a s h).toS s (kSet i s) := (rfl)
theorem kSet_ap : kSet i s d h = .nx (s.set i (some d)) h := (rfl)
def kAsg (g : MG) (s : SD) (d : D) (h : HP) : RS := ofS (g d s) h
theorem mAsg_ap {g : MG} : mAsg g a s h = (a s h).toS s (kAsg g s) := (rfl)
theorem kAsg_ap {g : MG} : kAsg g s d h = ofS (g d s) h := (rfl)
theorem ofS_some : ofS (some s) h = .nx s h := (rfl)
theorem gN_ap : gN i d s = some (s.set i (some d)) := (rfl)
theorem gTup_ap {t} : PM.gTup n t (.tup ds) s = if ds.length = n then t ds s else none := (rfl)
theorem gCons_ap {g : MG} {t} : PM.gCons g t (d :: ds) s = (g d s).bind (t ds) := (rfl)
theorem gNil_ap : PM.gNil [] s = some s := (rfl)
def kDrop (s : SD) (_ : D) (h : HP) : RS := .nx s h
theorem mDrop_ap : mDrop a s h = (a s h).toS s (kDrop s) := (rfl)
theorem kDrop_ap : kDrop s d h = .nx s h := (rfl)
theorem mRet_ap : mRet a s h = (a s h).toS s RS.rt := (rfl)
theorem mRetN_ap : mRetN s h = .rt .non h := (rfl)
def kIf (p q : MS) (s : SD) (x : Bool) (h : HP) : RS := bif x then p s h else q s h
theorem mIfS_ap : mIfS ta p q s h = (ta s h).toS s (kIf p q s) := (rfl)
theorem kIf_t : kIf p q s true h = p s h := (rfl)
theorem kIf_f : kIf p q s false h = q s h := (rfl)
theorem mBreak_ap : mBreak s h = .bk s h := (rfl)
theorem mCont_ap : mCont s h = .ct s h := (rfl)
theorem mBad_ap : mBad s h = .bad := (rfl)
def kAug (g : D → D → HP → Option (D × HP)) (i : Nat) (s : SD) (x : D) (y : D) (h : HP) : RS := (ofO (g x y h)).toS s (kSet i s)
theorem mAug_ap {g} : mAug i g a s h = match s[i]? with
  | some (some x) => (a s h).toS s (kAug g i s x)
  | _ => .bad := (rfl)
theorem kAug_ap {g} : kAug g i s x y h = (ofO (g x y h)).toS s (kSet i s) := (rfl)
theorem mVar_ap : mVar i s h = match s[i]? with
  | some (some d) => .ok d h
  | _ => .bad := (rfl)
theorem mC_ap : mC d s h = .ok d h := (rfl)
def k1 (g : D → HP → Option (D × HP)) (x : D) (h : HP) : R D := ofO (g x h)
theorem m1_ap {g} : m1 g a s h = (a s h).bind (k1 g) := (rfl)
theorem k1_ap {g} : k1 g x h = ofO (g x h) := (rfl)
def k2' (g : D → D → HP → Option (D × HP)) (x y : D) (h : HP) : R D := ofO (g x y h)
def k2 (g : D → D → HP → Option (D × HP)) (b : ME) (s : SD) (x : D) (h : HP) : R D := (b s h).bind (k2' g x)
theorem m2_ap {g} : m2 g a b s h = (a s h).bind (k2 g b s) := (rfl)
theorem k2_ap {g} : k2 g b s x h = (b s h).bind (k2' g x) := (rfl)
theorem k2'_ap {g} : k2' g x y h = ofO (g x y h) := (rfl)
theorem ofO_some : ofO (some (d, h)) = .ok d h := (rfl)
theorem mNil_ap : mNil s h = .ok [] h := (rfl)
def kC' (x : D) (xs : List D) (h : HP) : R (List D) := .ok (x :: xs) h
def kC (t : MA) (s : SD) (x : D) (h : HP) : R (List D) := (t s h).bind (kC' x)
theorem mCons_ap : mCons a t s h = (a s h).bind (kC t s) := (rfl)
theorem kC_ap : kC t s x h = (t s h).bind (kC' x) := (rfl)
theorem kC'_ap : kC' x ds h = .ok (x :: ds) h := (rfl)
theorem mCall_ap {g : List D → HP → R D} : mCall g t s h = (t s h).bind g := (rfl)
def kB (g : List D → HP → Option (D × HP)) (xs : List D) (h : HP) : R D := ofO (g xs h)
theorem mB_ap {g} : mB g t s h = (t s h).bind (kB g) := (rfl)
theorem kB_ap {g} : kB g ds h = ofO (g ds h) := (rfl)
def kM' (g : D → List D → HP → Option (D × HP)) (x : D) (xs : List D) (h : HP) : R D := ofO (g x xs h)
def kM (T : String) (g : D → List D → HP → Option (D × HP)) (t : MA) (s : SD) (x : D) (h : HP) : R D := bif tyB T x h then (t s h).bind (kM' g x) else .bad
theorem mMeth_ap {T g} : mMeth T g a t s h = (a s h).bind (kM T g t s) := (rfl)
theorem kM_ap {T g} : kM T g t s x h = bif tyB T x h then (t s h).bind (kM' g x) else .bad := (rfl)
theorem kM'_ap {g} : kM' g x ds h = ofO (g x ds h) := (rfl)
theorem mTest_ap : mTest a s h = (a s h).bind kBl := (rfl)
theorem kBl_ap {b : Bool} : kBl (.bl b) h = .ok b h := (rfl)
def kNot (b : Bool) (h : HP) : R Bool := .ok (!b) h
theorem mNot_ap : mNot ta s h = (ta s h).bind kNot := (rfl)
theorem kNot_ap {b} : kNot b h = .ok (!b) h := (rfl)
def kAnd (b : MT) (s : SD) (x : Bool) (h : HP) : R Bool := bif x then b s h else .ok false h
theorem mAnd_ap : mAnd ta tb s h = (ta s h).bind (kAnd tb s) := (rfl)
theorem kAnd_t : kAnd tb s true h = tb s h := (rfl)
theorem kAnd_f : kAnd tb s false h = .ok false h := (rfl)
def kOr (b : MT) (s : SD) (x : Bool) (h : HP) : R Bool := bif x then .ok true h else b s h
theorem mOr_ap : mOr ta tb s h = (ta s h).bind (kOr tb s) := (rfl)
theorem kOr_t : kOr tb s true h = .ok true h := (rfl)
theorem kOr_f : kOr tb s false h = tb s h := (rfl)
def kIfE (a b : ME) (s : SD) (x : Bool) (h : HP) : R D := bif x then a s h else b s h
theorem mIfE_ap : mIfE ta a b s h = (ta s h).bind (kIfE a b s) := (rfl)
theorem kIfE_t : kIfE a b s true h = a s h := (rfl)
theorem kIfE_f : kIfE a b s false h = b s h := (rfl)
def kAndV (b : ME) (s : SD) (x : Bool) (h : HP) : R D := bif x then b s h else .ok (.bl false) h
theorem mAndV_ap : mAndV a b s h = ((a s h).bind kBl).bind (kAndV b s) := (rfl)
theorem kAndV_t : kAndV b s true h = b s h := (rfl)
theorem kAndV_f : kAndV b s false h = .ok (.bl false) h := (rfl)
def kOrV (b : ME) (s : SD) (x : Bool) (h : HP) : R D := bif x then .ok (.bl true) h else b s h
theorem mOrV_ap : mOrV a b s h = ((a s h).bind kBl).bind (kOrV b s) := (rfl)
theorem kOrV_t : kOrV b s true h = .ok (.bl true) h := (rfl)
theorem kOrV_f : kOrV b s false h = b s h := (rfl)
def kNotV (x : Bool) (h : HP) : R D := .ok (.bl (!x)) h
theorem mNotV_ap : mNotV a s h = ((a s h).bind kBl).bind kNotV := (rfl)
theorem kNotV_ap {b : Bool} : kNotV b h = .ok (.bl (!b)) h := (rfl)
def kTup (xs : List D) (h : HP) : R D := if xs.length ≤ 1000000 then .ok (.tup xs) h else .bad
theorem mTup_ap : mTup t s h = (t s h).bind kTup := (rfl)
theorem kTup_ap : kTup ds h = if ds.length ≤ 1000000 then .ok (.tup ds) h else .bad := (rfl)
def kLst (xs : List D) (h : HP) : R D := if xs.length ≤ 1000000 then .ok (.ref h.length) (h ++ [.lst xs]) else .bad
theorem mLst_ap : mLst t s h = (t s h).bind kLst := (rfl)
theorem kLst_ap : kLst ds h = if ds.length ≤ 1000000 then .ok (.ref h.length) (h ++ [.lst ds]) else .bad := (rfl)
theorem mNoPart_ap : mNoPart s h = .ok none h := (rfl)
theorem mPart_ap : mPart a s h = (a s h).bind kInt := (rfl)
theorem kInt_ap {j : Int} : kInt (.int j) h = .ok (some j) h := (rfl)
def kSl3 (g : D → Option Int → Option Int → HP → Option (D × HP)) (x : D) (lo hi : Option Int) (h : HP) : R D := ofO (g x lo hi h)
def kSl2 (g : D → Option Int → Option Int → HP → Option (D × HP)) (u : MO) (s : SD) (x : D) (lo : Option Int) (h : HP) : R D := (u s h).bind (kSl3 g x lo)
def kSl1 (g : D → Option Int → Option Int → HP → Option (D × HP)) (l u : MO) (s : SD) (x : D) (h : HP) : R D := (l s h).bind (kSl2 g u s x)
theorem mSl_ap {g} {l u : MO} : mSl g a l u s h = (a s h).bind (kSl1 g l u s) := (rfl)
theorem kSl1_ap {g} {l u : MO} : kSl1 g l u s x h = (l s h).bind (kSl2 g u s x) := (rfl)
theorem kSl2_ap {g} {u : MO} {lo} : kSl2 g u s x lo h = (u s h).bind (kSl3 g x lo) := (rfl)
theorem kSl3_ap {g lo hi} : kSl3 g x lo hi h = ofO (g x lo hi h) := (rfl)
def kCh3 (g' : D → D → HP → Option (D × HP)) (y z : D) (h : HP) : R D := ofO (g' y z h)
def kCh2 (g' : D → D → HP → Option (D × HP)) (c : ME) (s : SD) (y : D) (k : Bool) (h : HP) : R D := bif k then (c s h).bind (kCh3 g' y) else .ok (.bl false) h
def kCh1 (g g' : D → D → HP → Option (D × HP)) (c : ME) (s : SD) (x y : D) (h : HP) : R D := ((ofO (g x y h)).bind kBl).bind (kCh2 g' c s y)
def kCh0 (g g' : D → D → HP → Option (D × HP)) (b c : ME) (s : SD) (x : D) (h : HP) : R D := (b s h).bind (kCh1 g g' c s x)
theorem mChain_ap {g g'} : mChain g g' a b c s h = (a s h).bind (kCh0 g g' b c s) := (rfl)
theorem kCh0_ap {g g'} : kCh0 g g' b c s x h = (b s h).bind (kCh1 g g' c s x) := (rfl)
theorem kCh1_ap {g g'} : kCh1 g g' c s x y h = ((ofO (g x y h)).bind kBl).bind (kCh2 g' c s y) := (rfl)
theorem kCh2_t {g'} : kCh2 g' c s y true h = (c s h).bind (kCh3 g' y) := (rfl)
theorem kCh2_f {g'} : kCh2 g' c s y false h = .ok (.bl false) h := (rfl)
theorem kCh3_ap {g'} : kCh3 g' x y h = ofO (g' x y h) := (rfl)
def kP3 (s : SD) (v x : D) (y : D) (h : HP) : RS := match putG x y v h with
  | some h => .nx s h
  | none => .bad
def kP2 (i : ME) (s : SD) (v x : D) (h : HP) : RS := (i s h).toS s (kP3 s v x)
def kP1 (o i : ME) (s : SD) (v : D) (h : HP) : RS := (o s h).toS s (kP2 i s v)
theorem mPutD_ap : mPutD a b c s h = (a s h).toS s (kP1 b c s) := (rfl)
theorem kP1_ap : kP1 b c s x h = (b s h).toS s (kP2 c s x) := (rfl)
theorem kP2_ap : kP2 c s x y h = (c s h).toS s (kP3 s x y) := (rfl)
theorem kP3_ap {v} : kP3 s v x y h = match putG x y v h with
  | some h => .nx s h
  | none => .bad := (rfl)
/-- a def's end -/
def fin : RS → R D
  | .nx _ h => .ok .non h
  | .rt d h => .ok d h
  | .exc _ c fs h => .exc c fs h
  | _ => .bad
theorem runDef_ap : runDef n p ds h = fin (p (ds.map some ++ List.replicate (n - ds.length) none) h) := by
  unfold runDef fin
  cases p (ds.map some ++ List.replicate (n - ds.length) none) h <;> rfl
theorem fin_nx : fin (.nx s h) = .ok .non h := (rfl)
theorem fin_rt : fin (.rt d h) = .ok d h := (rfl)
theorem fin_exc {c fs} : fin (.exc s c fs h) = .exc c fs h := (rfl)
theorem mFor_ok {it : MI} {g : MG} {xs : List D} {G : HP → Prop} {h' : HP} (e : it s h = .ok (xs, G) h') : mFor it g p s h = mLoop G g p xs s h' := by
  unfold mFor; rw [e]; rfl
theorem mLoop_nil {G : HP → Prop} {g : MG} (hG : G h) : mLoop G g p [] s h = .nx s h := by
  unfold mLoop; rw [if_pos hG]
theorem mLoop_nx {G : HP → Prop} {g : MG} {s1 s2 : SD} {h2 : HP} (hG : G h) (e : g d s = some s1) (e2 : p s1 h = .nx s2 h2 ∨ p s1 h = .ct s2 h2) : mLoop G g p (d :: ds) s h = mLoop G g p ds s2 h2 := by
  rw [mLoop]
  dsimp only
  rw [if_pos hG, e]
  dsimp only
  rcases e2 with e2 | e2 <;> rw [e2]
theorem mLoop_bk {G : HP → Prop} {g : MG} {s1 s2 : SD} {h2 : HP} (hG : G h) (e : g d s = some s1) (e2 : p s1 h = .bk s2 h2) : mLoop G g p (d :: ds) s h = .nx s2 h2 := by
  rw [mLoop]
  dsimp only
  rw [if_pos hG, e]
  dsimp only
  rw [e2]
theorem mLoop_rt {G : HP → Prop} {g : MG} {s1 : SD} {h2 : HP} (hG : G h) (e : g d s = some s1) (e2 : p s1 h = .rt x h2) : mLoop G g p (d :: ds) s h = .rt x h2 := by
  rw [mLoop]
  dsimp only
  rw [if_pos hG, e]
  dsimp only
  rw [e2]
theorem mLoop_exc {G : HP → Prop} {g : MG} {s1 s2 : SD} {h2 : HP} {c fs} (hG : G h) (e : g d s = some s1) (e2 : p s1 h = .exc s2 c fs h2) : mLoop G g p (d :: ds) s h = .exc s2 c fs h2 := by
  rw [mLoop]
  dsimp only
  rw [if_pos hG, e]
  dsimp only
  rw [e2]
/-- while: by fuel -/
theorem mWhile_eq : mWhile ta p = mWhileN wN ta p := by unfold mWhile; rfl
theorem wh_f {h' : HP} (e : ta s h = .ok false h') : mWhileN (n + 1) ta p s h = .nx s h' := by
  show (ta s h).toS s _ = _
  rw [e]; rfl
theorem wh_nx {h' h2 : HP} {s2 : SD} (e : ta s h = .ok true h') (e2 : p s h' = .nx s2 h2 ∨ p s h' = .ct s2 h2) : mWhileN (n + 1) ta p s h = mWhileN n ta p s2 h2 := by
  show (ta s h).toS s _ = _
  rw [e]
  show (match p s h' with | .nx s h => mWhileN n ta p s h | .ct s h => mWhileN n ta p s h | .bk s h => .nx s h | .rt d h => .rt d h | .exc s c fs h => .exc s c fs h | .bad => .bad) = _
  rcases e2 with e2 | e2 <;> rw [e2]
theorem wh_exc {h' h2 : HP} {s2 : SD} {c fs} (e : ta s h = .ok true h') (e2 : p s h' = .exc s2 c fs h2) : mWhileN (n + 1) ta p s h = .exc s2 c fs h2 := by
  show (ta s h).toS s _ = _
  rw [e]
  show (match p s h' with | .nx s h => mWhileN n ta p s h | .ct s h => mWhileN n ta p s h | .bk s h => .nx s h | .rt d h => .rt d h | .exc s c fs h => .exc s c fs h | .bad => .bad) = _
  rw [e2]
/-- the comprehension's turns -/
theorem lc_nil {G : HP → Prop} {cc : MT} {el : ME} (hG : G h) : lcLoop G i cc el n [] s h = .ok (.ref n) h := by
  unfold lcLoop; rw [if_pos hG]
theorem lc_yes {G : HP → Prop} {cc : MT} {el : ME} {h1 h2 : HP} {acc : List D} (hG : G h) (e1 : cc (s.set i (some d)) h = .ok true h1) (e2 : el (s.set i (some d)) h1 = .ok y h2) (e3 : h2[n]? = some (.lst acc)) (hl : acc.length < 1000000) :
    lcLoop G i cc el n (d :: ds) s h = lcLoop G i cc el n ds s (h2.set n (.lst (acc ++ [y]))) := by
  rw [lcLoop, if_pos hG, e1]
  dsimp only
  rw [e2]
  dsimp only
  rw [e3]
  dsimp only
  rw [if_pos hl]
theorem lc_no {G : HP → Prop} {cc : MT} {el : ME} {h1 : HP} (hG : G h) (e1 : cc (s.set i (some d)) h = .ok false h1) : lcLoop G i cc el n (d :: ds) s h = lcLoop G i cc el n ds s h1 := by
  rw [lcLoop, if_pos hG, e1]
theorem mLc_ok {it : MI} {cc : MT} {el : ME} {xs : List D} {G : HP → Prop} {h' : HP} (e : it s h = .ok (xs, G) h') : mLc it i cc el s h = lcLoop G i cc el h'.length xs (s.set i none) (h' ++ [.lst []]) := by
  unfold mLc; rw [e]; rfl
theorem mYes_ap : mYes s h = .ok true h := (rfl)
/-- a comprehension whose elements are plain values and change nothing -/
theorem lc_pure {G : HP → Prop} {el : ME} {f : D → D} {hh : HP} (hG : ∀ acc, G (hh ++ [.lst acc])) (he : ∀ d ∈ ds, ∀ acc, el (s.set i (some d)) (hh ++ [.lst acc]) = .ok (f d) (hh ++ [.lst acc])) :
    ∀ (acc : List D), acc.length + ds.length ≤ 1000000 → lcLoop G i mYes el hh.length ds s (hh ++ [.lst acc]) = .ok (.ref hh.length) (hh ++ [.lst (acc ++ ds.map f)]) := by
  induction ds with
  | nil => intro acc _; rw [lc_nil (hG acc), List.map_nil, List.append_nil]
  | cons d ds ih =>
    intro acc hl
    rw [List.length_cons] at hl
    have e3 : (hh ++ [Ob.lst acc])[hh.length]? = some (.lst acc) := by rw [List.getElem?_append_right (Nat.le_refl _)]; simp
    rw [lc_yes (hG acc) rfl (he d List.mem_cons_self acc) e3 (by omega)]
    have e4 : (hh ++ [Ob.lst acc]).set hh.length (.lst (acc ++ [f d])) = hh ++ [.lst (acc ++ [f d])] := by
      rw [List.set_append_right _ _ (Nat.le_refl _)]; simp
    rw [e4, ih (fun d hd => he d (List.mem_cons_of_mem _ hd)) (acc ++ [f d]) (by simp; omega)]
    simp
/-! operators on values -/
theorem cMul_r {i j : Int} (h : -1000000000000 ≤ j ∧ j ≤ 1000000000000) : cMul i j = true := by
  unfold cMul
  rw [Bool.or_eq_true]
  right
  rw [Bool.and_eq_true, decide_eq_true_eq, decide_eq_true_eq]
  omega
theorem cMul_l {i j : Int} (h : -1000000000000 ≤ i ∧ i ≤ 1000000000000) : cMul i j = true := by
  unfold cMul
  rw [Bool.or_eq_true]
  left
  rw [Bool.and_eq_true, decide_eq_true_eq, decide_eq_true_eq]
  omega
theorem add_ii {i j : Int} : addG (.int i) (.int j) h = some (.int (i + j), h) := (rfl)
theorem iadd_ii {i j : Int} : iaddG (.int i) (.int j) h = some (.int (i + j), h) := (rfl)
theorem add_ss {u v : Str} (c : u.length + v.length ≤ 1000000) : addG (.str u) (.str v) h = some (.str (u ++ v), h) := by unfold addG; dsimp only; rw [if_pos c]
theorem sub_ii {i j : Int} : subG (.int i) (.int j) h = some (.int (i - j), h) := (rfl)
theorem mul_ii {i j : Int} (c : cMul i j = true) : mulG (.int i) (.int j) h = some (.int (i * j), h) := by unfold mulG; dsimp only; rw [if_pos c]
theorem mul_si {u : Str} {j : Int} (c : 1 < j ∧ j ≤ 1000 ∧ u.length ≤ 1000) : mulG (.str u) (.int j) h = some (.str (Txt.mul u j), h) := by unfold mulG; dsimp only; rw [if_pos c]
theorem mod_ii {i j : Int} (c : j ≠ 0) : modG (.int i) (.int j) h = some (.int (i.fmod j), h) := by unfold modG intG; dsimp only; rw [if_pos (decide_eq_true c)]
theorem fdiv_ii {i j : Int} (c : j ≠ 0 ∧ j.natAbs < 1073741824) : fdivG (.int i) (.int j) h = some (.int (i.fdiv j), h) := by unfold fdivG intG; dsimp only; rw [if_pos (decide_eq_true c)]
theorem pow_ii {i j : Int} (c : 0 ≤ j ∧ j ≤ 1000000 ∧ i.natAbs < 2 ^ 64) : powG (.int i) (.int j) h = some (.int (i ^ j.toNat), h) := by unfold powG intG; dsimp only; rw [if_pos (decide_eq_true c)]
theorem neg_i {i : Int} : negG (.int i) h = some (.int (-i), h) := (rfl)
theorem ord_ii {g f} {i j : Int} : ordG g f (.int i) (.int j) h = some (.bl (g i j), h) := (rfl)
theorem ord_ss {g f} {i j : Str} : ordG g f (.str i) (.str j) h = some (.bl (f i j), h) := (rfl)
theorem eq_ii {i j : Int} : eqG false (.int i) (.int j) h = some (.bl (decide (i = j)), h) := (rfl)
theorem ne_ii {i j : Int} : eqG true (.int i) (.int j) h = some (.bl (!decide (i = j)), h) := (rfl)
theorem eq_ss {i j : Str} : eqG false (.str i) (.str j) h = some (.bl (decide (i = j)), h) := (rfl)
theorem ne_ss {i j : Str} : eqG true (.str i) (.str j) h = some (.bl (!decide (i = j)), h) := (rfl)
theorem is_non {d : D} : isG false d .non h = some (.bl (isNon d), h) := (rfl)
theorem isn_non {d : D} : isG true d .non h = some (.bl (!isNon d), h) := (rfl)
theorem int_i {i : Int} : toIntG [.int i] h = some (.int i, h) := (rfl)
theorem len_s {u : Str} (c : u.length ≤ 1000000) : lenG [.str u] h = some (.int u.length, h) := by unfold lenG; dsimp only; rw [if_pos c]
theorem len_t {xs : List D} : lenG [.tup xs] h = some (.int xs.length, h) := (rfl)
theorem min_ii {i j : Int} : min2G [.int i, .int j] h = some (.int (if j < i then j else i), h) := (rfl)
theorem sl_s {u : Str} {lo hi : Option Int} (l : u.length ≤ 1000000) : slG (.str u) lo hi h = some (.str (cutS u lo hi), h) := by
  unfold slG; dsimp only; rw [if_pos l]
theorem in_c {c : Nat} {b : Str} : inG false (.str ⟨#[c]⟩) (.str b) h = some (.bl (decide (c ∈ b.cps.toList)), h) := (rfl)
theorem nin_c {c : Nat} {b : Str} : inG true (.str ⟨#[c]⟩) (.str b) h = some (.bl (!decide (c ∈ b.cps.toList)), h) := (rfl)
theorem split_s {u v : Str} (c : (v.length == 0) = false ∧ u.length ≤ 1000000) : splitG (.str u) [.str v] h = some (.ref h.length, h ++ [.lst ((Txt.split u v).map D.str)]) := by
  unfold splitG; dsimp only; rw [if_pos c]
theorem str1_ss {g : Str → Str → D} {u v : Str} : strG1 g (.str u) [.str v] h = some (g u v, h) := (rfl)
theorem find4_s {u v : Str} {i j : Int} : find4G (.str u) [.str v, .int i, .int j] h = some (.int (Txt.findIn u v i j), h) := (rfl)
theorem ty_str {u : Str} : tyB "str" (.str u) h = true := (rfl)
theorem ord_c {c : Nat} : toOrdG [.str ⟨#[c]⟩] h = some (.int c, h) := (rfl)
theorem iR1_ap : iR1 t s h = (t s h).bind itR1 := (rfl)
theorem itR1_i {j : Int} (c : -(2 ^ 62) ≤ j ∧ j < 2 ^ 62) : itR1 [.int j] h = .ok ((List.range j.toNat).map fun (i : Nat) => .int (0 + i), fun _ => True) h := by unfold itR1; dsimp only; rw [if_pos c]
theorem iS_ap : iS a s h = (a s h).bind itS := (rfl)
theorem itS_s {u : Str} : itS (.str u) h = .ok (u.cps.toList.map fun c => .str ⟨#[c]⟩, fun _ => True) h := (rfl)
theorem iT_ap : iT a s h = (a s h).bind itT := (rfl)
theorem itT_t {xs : List D} : itT (.tup xs) h = .ok (xs, fun _ => True) h := (rfl)
theorem iE_ap {k : Int} : iE k t s h = (t s h).bind (itE k) := (rfl)
def oD (x : Option D) (h : HP) : Option (D × HP) := x.map fun d => (d, h)
theorem oD_some : oD (some d) h = some (d, h) := (rfl)
def oLen (x : Option Ob) (h : HP) : Option (D × HP) := match x with
  | some (.lst xs) => some (.int xs.length, h)
  | some (.rdl xs) => some (.int xs.length, h)
  | _ => none
theorem len_r {i : Nat} : lenG [.ref i] h = oLen h[i]? h := by unfold lenG oLen; dsimp only; first | done | (rcases h[i]? with _ | o; rfl; cases o <;> rfl)
theorem oLen_l {xs : List D} : oLen (some (.lst xs)) h = some (.int xs.length, h) := (rfl)
theorem oLen_r {xs : List D} : oLen (some (.rdl xs)) h = some (.int xs.length, h) := (rfl)
def oKey (x : Option Key) (kvs : List (Key × D)) (h : HP) : Option (D × HP) := x.bind fun k => (getK kvs k).map fun d => (d, h)
theorem oKey_s {k : Key} {kvs : List (Key × D)} : oKey (some k) kvs h = oD (getK kvs k) h := (rfl)
def oItem (x : Option Ob) (y : D) (h : HP) : Option (D × HP) := match x with
  | some (.dic kvs) => oKey (keyD y) kvs h
  | some (.lst xs) => (match y with | .int j => oD (atI xs j) h | _ => none)
  | some (.rdl xs) => (match y with | .int j => oD (atI xs j) h | _ => none)
  | _ => none
theorem it_ref {i : Nat} {y : D} : itemG (.ref i) y h = oItem h[i]? y h := by
  unfold itemG oItem
  dsimp only
  cases e : h[i]? with
  | none =>
    unfold ixG
    cases y with
    | int j => dsimp only; rw [e]
    | _ => rfl
  | some o =>
    cases o with
    | dic kvs => rfl
    | lst xs =>
      unfold ixG
      cases y with
      | int j => dsimp only; rw [e]; rfl
      | _ => rfl
    | rdl xs =>
      unfold ixG
      cases y with
      | int j => dsimp only; rw [e]; rfl
      | _ => rfl
    | _ =>
      unfold ixG
      cases y with
      | int j => dsimp only; rw [e]
      | _ => rfl
theorem oItem_d {kvs : List (Key × D)} {y : D} : oItem (some (.dic kvs)) y h = oKey (keyD y) kvs h := (rfl)
theorem oItem_l {xs : List D} {j : Int} : oItem (some (.lst xs)) (.int j) h = oD (atI xs j) h := (rfl)
theorem oItem_r {xs : List D} {j : Int} : oItem (some (.rdl xs)) (.int j) h = oD (atI xs j) h := (rfl)
theorem it_tup {xs : List D} {j : Int} : itemG (.tup xs) (.int j) h = oD (atI xs j) h := (rfl)
def oC (x : Option Nat) (h : HP) : Option (D × HP) := x.map fun c => (.str ⟨#[c]⟩, h)
theorem oC_some {c : Nat} : oC (some c) h = some (.str ⟨#[c]⟩, h) := (rfl)
theorem it_str {u : Str} {j : Int} (l : u.length ≤ 1000000) : itemG (.str u) (.int j) h = oC (atI u.cps.toList j) h := by
  unfold itemG ixG; dsimp only; rw [if_pos l]; rfl
theorem keyD_s {u : Str} : keyD (.str u) = some (.inr u) := (rfl)
theorem keyD_i {j : Int} : keyD (.int j) = some (.inl j) := (rfl)
def oApp (x : Option Ob) (i : Nat) (d : D) (h : HP) : Option (D × HP) := match x with
  | some (.lst xs) => if xs.length < 1000000 then some (.non, h.set i (.lst (xs ++ [d]))) else none
  | _ => none
theorem app_r {i : Nat} {d : D} : appendG (.ref i) [d] h = oApp h[i]? i d h := by unfold appendG oApp; dsimp only; first | done | (rcases h[i]? with _ | o; rfl; cases o <;> rfl)
theorem oApp_l {xs : List D} {i : Nat} (l : xs.length < 1000000) : oApp (some (.lst xs)) i d h = some (.non, h.set i (.lst (xs ++ [d]))) := by unfold oApp; dsimp only; rw [if_pos l]
def oExt (x y : Option Ob) (i : Nat) (h : HP) : Option (D × HP) := match x, y with
  | some (.lst xs), some (.lst ys) => if xs.length + ys.length ≤ 1000000 then some (.non, h.set i (.lst (xs ++ ys))) else none
  | _, _ => none
theorem ext_r {i j : Nat} : extendG (.ref i) [.ref j] h = oExt h[i]? h[j]? i h := by unfold extendG oExt; dsimp only; first | done | (rcases h[i]? with _ | o; rfl; cases o <;> first | rfl | (rcases h[j]? with _ | o; rfl; cases o <;> rfl))
theorem oExt_l {xs ys : List D} {i : Nat} (l : xs.length + ys.length ≤ 1000000) : oExt (some (.lst xs)) (some (.lst ys)) i h = some (.non, h.set i (.lst (xs ++ ys))) := by unfold oExt; dsimp only; rw [if_pos l]
def oTy (T : String) (x : Option Ob) : Bool := match x with
  | some (.lst _) => T == "list"
  | some (.rdl _) => T == "list"
  | some (.dic _) => T == "dict"
  | some (.dit _) => T == "dict"
  | _ => false
theorem ty_ref {T : String} {i : Nat} : tyB T (.ref i) h = oTy T h[i]? := by unfold tyB oTy; dsimp only; first | done | (rcases h[i]? with _ | o; rfl; cases o <;> rfl)
theorem oTy_l {xs : List D} : oTy "list" (some (.lst xs)) = true := (rfl)
def oIsi (n : String) (x : Option Ob) (h : HP) : Option (D × HP) := match x with
  | some (.lst _) => (kitB "list" n).map fun b => (.bl b, h)
  | some (.dic _) => (kitB "dict" n).map fun b => (.bl b, h)
  | _ => none
theorem isi_ref {i : Nat} {n : String} : isiG [.ref i, .ty n] h = oIsi n h[i]? h := by unfold isiG oIsi; dsimp only; first | done | (rcases h[i]? with _ | o; rfl; cases o <;> rfl)
theorem oIsi_l {xs : List D} : oIsi "list" (some (.lst xs)) h = some (.bl true, h) := (rfl)
def oPutK (x : Option Key) (kvs : List (Key × D)) (i : Nat) (v : D) (h : HP) : Option HP := x.bind fun k => if kvs.length < 1000000 then some (h.set i (.dic (setK kvs k v))) else none
def oPut (x : Option Ob) (i : Nat) (y v : D) (h : HP) : Option HP := match x with
  | some (.dic kvs) => oPutK (keyD y) kvs i v h
  | _ => none
theorem put_ref {i : Nat} {y v : D} : putG (.ref i) y v h = oPut h[i]? i y v h := by unfold putG oPut; dsimp only; first | done | (rcases h[i]? with _ | o; rfl; cases o <;> rfl)
theorem oPut_d {kvs : List (Key × D)} {i : Nat} {y v : D} : oPut (some (.dic kvs)) i y v h = oPutK (keyD y) kvs i v h := (rfl)
theorem oPutK_s {k : Key} {kvs : List (Key × D)} {i : Nat} {v : D} (l : kvs.length < 1000000) : oPutK (some k) kvs i v h = some (h.set i (.dic (setK kvs k v))) := by
  show (if kvs.length < 1000000 then _ else _) = _; rw [if_pos l]
def oBls (x : Option (List Bool)) (h : HP) : Option (D × HP) := x.map fun bs => (.bl (bs.all id), h)
theorem oBls_s {bs : List Bool} : oBls (some bs) h = some (.bl (bs.all id), h) := (rfl)
def oAll (x : Option Ob) (h : HP) : Option (D × HP) := match x with
  | some (.lst xs) => oBls (boolsD xs) h
  | _ => none
theorem all_r {i : Nat} : allG [.ref i] h = oAll h[i]? h := by unfold allG oAll; dsimp only; first | done | (rcases h[i]? with _ | o; rfl; cases o <;> rfl)
theorem oAll_l {xs : List D} : oAll (some (.lst xs)) h = oBls (boolsD xs) h := (rfl)
def oTup (x : Option Ob) (h : HP) : Option (D × HP) := match x with
  | some (.lst xs) => some (.tup xs, h)
  | some (.rdl xs) => some (.tup xs, h)
  | _ => none
theorem tup_r {i : Nat} : toTupG [.ref i] h = oTup h[i]? h := by unfold toTupG oTup; dsimp only; first | done | (rcases h[i]? with _ | o; rfl; cases o <;> rfl)
theorem oTup_l {xs : List D} : oTup (some (.lst xs)) h = some (.tup xs, h) := (rfl)
def oEnum (k : Int) (i : Nat) (x : Option Ob) (h : HP) : R (List D × (HP → Prop)) := match x with
  | some (.lst xs) => .ok (enumDs k xs, fun h => h[i]? = some (.lst xs)) h
  | some (.rdl xs) => .ok (enumDs k xs, fun h => h[i]? = some (.rdl xs)) h
  | _ => .bad
theorem itE_r {k : Int} {i : Nat} : itE k [.ref i] h = oEnum k i h[i]? h := by unfold itE oEnum; dsimp only; first | done | (rcases h[i]? with _ | o; rfl; cases o <;> rfl)
theorem oEnum_l {k : Int} {i : Nat} {xs : List D} : oEnum k i (some (.lst xs)) h = .ok (enumDs k xs, fun h => h[i]? = some (.lst xs)) h := (rfl)
theorem getK_h {k : Key} {kvs : List (Key × D)} {v : D} : getK ((k, v) :: kvs) k = some v := by simp [getK, List.find?_cons]
theorem getK_t {k k' : Key} {kvs : List (Key × D)} {v : D} (n : decide (k' = k) = false) : getK ((k', v) :: kvs) k = getK kvs k := by simp [getK, List.find?_cons, n]
end
end PM
end
section
set_option Elab.async false
set_option linter.all false
set_option maxRecDepth 100000
set_option maxHeartbeats 1000000
namespace PM
open PySem PySem.Spec PyProof.Rows L2

/-! ### lists and tuples alike -/
def seqD (d : D) (h : HP) : Option (List D) := match d with
  | .tup xs => some xs
  | .stp xs => some xs
  | .ref i => match h[i]? with
    | some (.lst xs) => some xs
    | some (.rdl xs) => some xs
    | _ => none
  | _ => none
section
variable {X : Cx} {K : PySem.W.Frag} {mg : Str → Option Value} {r : List Addr} {H : Hp} {h : HP} {W : WX} {a b c e o : Expr} {es rest : List Expr} {ma mb mc : ME} {t : MA} {pos pos' apos cpos : Pos}
/-- a list or a tuple, told apart -/
theorem seqD_ok2 {d : D} {v : V} {xs : List D} (rp : Rep K mg r h H) (rl : RelD K mg r H d v) (e : seqD d h = some xs) :
    ∃ ad vs, v = .ref ad ∧ RelDs K mg r H xs vs ∧ ((SqL K H ad vs ∧ ∃ i, d = .ref i ∧ r[i]? = some ad) ∨ (SqT K H ad vs ∧ (d = .tup xs ∨ d = .stp xs))) := by
  unfold seqD at e
  cases rl with
  | @tup ys ad vs sq rls => cases e; exact ⟨ad, vs, rfl, rls, .inr ⟨SqT.of sq, .inl rfl⟩⟩
  | @stp ys ad vs sq rls => cases e; exact ⟨ad, vs, rfl, rls, .inr ⟨sq.sq, .inr rfl⟩⟩
  | @ref i ad ea =>
    dsimp only at e
    split at e
    · rename_i ys hx
      cases e
      obtain ⟨vs, sq, rls⟩ := list_at rp ea (.inl hx)
      exact ⟨ad, vs, rfl, rls, .inl ⟨sq, i, rfl, ea⟩⟩
    · rename_i ys hx
      cases e
      obtain ⟨vs, sq, rls⟩ := list_at rp ea (.inr hx)
      exact ⟨ad, vs, rfl, rls, .inl ⟨sq, i, rfl, ea⟩⟩
    · cases e
  | _ => cases e
theorem seqD_ok {d : D} {v : V} {xs : List D} (rp : Rep K mg r h H) (rl : RelD K mg r H d v) (e : seqD d h = some xs) : ∃ ad vs, v = .ref ad ∧ (SqT K H ad vs ∨ SqL K H ad vs) ∧ RelDs K mg r H xs vs := by
  obtain ⟨ad, vs, e1, rls, q⟩ := seqD_ok2 rp rl e
  rcases q with ⟨q, _⟩ | ⟨q, _⟩
  · exact ⟨ad, vs, e1, .inr q, rls⟩
  · exact ⟨ad, vs, e1, .inl q, rls⟩
/-- *e in a display -/
def mStar (a : ME) (t : MA) : MA := fun s h => (a s h).bind fun x h => match seqD x h with
  | some xs => (t s h).bind fun ys h => .ok (xs ++ ys) h
  | none => .bad
theorem qa_star {p : Pos} (ha : QE X W e ma) (ht : QA X W es t) (hs : starEach (.Starred e p :: es) X.env = (true, eval e X.env) :: starEach es X.env := by rfl) : QA X W (.Starred e p :: es) (mStar ma t) := (StX.pa_star ha ht hs).imp fun σ H Q q => by
  obtain ⟨r, s, h, rp, rs, p⟩ := tM.bind (rr1 := rD) (m := ma) (k := fun s x h => match seqD x h with
    | some xs => (t s h).bind fun ys h => .ok (xs ++ ys) h
    | none => .bad) q
  refine ⟨r, s, h, rp, rs, p.imp fun x H1 ⟨r1, s1, d, h1, rp1, rs1, rl1, p1⟩ => ?_⟩
  cases e1 : seqD d h1 with
  | none => rw [e1] at p1; exact p1.elim
  | some xs =>
    rw [e1] at p1
    obtain ⟨ad, vs, e2, sq, rls⟩ := seqD_ok rp1 rl1 e1
    refine ⟨ad, vs, e2, sq, r1, s1, h1, rp1, rs1, (Post.bind (rr1 := rDs) p1).imp fun y H2 ⟨r2, ds, h2, e3, k2, rp2, rl2, p2⟩ => ?_⟩
    exact Post.here (rr := rDs) p2 rp2 ((rls.mono e3 k2).append rl2)

/-! ### what is walked: a list, a tuple, a text -/
def itA : D → HP → R (List D × (HP → Prop)) := fun d h => match d with
  | .str x => .ok (x.cps.toList.map fun c => .str ⟨#[c]⟩, fun _ => True) h
  | .tup xs => .ok (xs, fun _ => True) h
  | .stp xs => .ok (xs, fun _ => True) h
  | .ref i => match h[i]? with
    | some (.lst xs) => .ok (xs, fun h => h[i]? = some (.lst xs)) h
    | some (.rdl xs) => .ok (xs, fun h => h[i]? = some (.rdl xs)) h
    | some (.rdd kvs) => .ok (kvs.map fun kv => match kv.1 with | .inl i => .int i | .inr x => .str x, fun h => h[i]? = some (.rdd kvs)) h
    | some (.rdt kvs) => .ok (kvs.map fun kv => .tup (kv.1.map fun k => match k with | .inl i => .int i | .inr x => .str x), fun h => h[i]? = some (.rdt kvs)) h
    | _ => .bad
  | _ => .bad
def iA (a : ME) : MI := fun s h => (a s h).bind itA
def kD (k : Key) : D := match k with
  | .inl i => .int i
  | .inr x => .str x
theorem kD_rel (k : Key) : RelD K mg r H (kD k) (kV k) := by
  cases k with
  | inl i => exact .int i
  | inr x => exact .str x
theorem kDs_rel : ∀ ks : List Key, RelDs K mg r H (ks.map kD) (ks.map kV)
  | [] => .nil
  | k :: ks => .cons (kD_rel k) (kDs_rel ks)
theorem kD_fun : (fun k : Key => (match k with | .inl i => .int i | .inr x => .str x : D)) = kD := by
  funext k; cases k <;> rfl
theorem jrel_tup {r0 : List Addr} {H0 : Hp} {ad : Addr} {xs : List D} {vs : List V} (sq : SqT K H0 ad vs) (rl : RelDs K mg r0 H0 xs vs) : JRel K mg r0 H0 (Itt K ad) xs (fun _ => True) := by
  intro j r H h e k rp g
  have sq1 : SqT K H ad vs := k.sqT sq
  refine ⟨fun d hd => ?_, fun hj => ⟨vs, sq1, by rw [← rl.length]; exact hj⟩⟩
  obtain ⟨v, hv, rv⟩ := rl.get hd
  exact ⟨⟨vs, v, sq1, hv⟩, fun y H' ⟨e1, e2⟩ => by subst e1; have := e2 vs sq1; rw [hv] at this; cases this; exact ⟨Keep.refl _, rp, rv.mono e k⟩⟩
theorem jrel_str {r0 : List Addr} {H0 : Hp} {z : Str} : JRel K mg r0 H0 (Its z) (z.cps.toList.map fun c => .str ⟨#[c]⟩) (fun _ => True) := by
  intro j r H h e k rp g
  refine ⟨fun d hd => ?_, fun hj => ?_⟩
  · rw [List.getElem?_map, Array.getElem?_toList] at hd
    obtain ⟨c, q, rfl⟩ := Option.map_eq_some_iff.mp hd
    exact ⟨(Array.getElem?_eq_some_iff.mp q).1, fun y H' ⟨e1, c', e2, e3⟩ => by
      subst e1; rw [q] at e2; cases e2; subst e3; exact ⟨Keep.refl _, rp, .str _⟩⟩
  · show z.cps.size ≤ j
    simpa using hj
theorem relP_get {κ : Type} : ∀ {ds : List (κ × D)} {vs : List (κ × V)} {i : Nat} {p : κ × D}, RelP K mg r H ds vs → ds[i]? = some p → ∃ q, vs[i]? = some q ∧ q.1 = p.1 ∧ RelD K mg r H p.2 q.2
  | _, _, _, _, .nil, h => by simp at h
  | _, _, 0, _, .cons a _, h => by simp at h; subst h; exact ⟨_, rfl, a.1.symm, a.2⟩
  | _, _, i + 1, _, .cons _ t, h => by
    obtain ⟨q, e, z⟩ := relP_get (i := i) t (by simpa using h)
    exact ⟨q, by simpa using e, z⟩
theorem relP_len {κ : Type} : ∀ {ds : List (κ × D)} {vs : List (κ × V)}, RelP K mg r H ds vs → ds.length = vs.length
  | _, _, .nil => rfl
  | _, _, .cons _ t => congrArg (· + 1) (relP_len t)
theorem jrel_keys {r0 : List Addr} {H0 : Hp} {i : Nat} {ad : Addr} {od : Obj} {kvs : List (Key × D)} {vs : List (Key × V)} (ea : r0[i]? = some ad) (q : H0 ad = some (.frz od (.dK vs))) (rl : RelP K mg r0 H0 kvs vs) :
    JRel K mg r0 H0 (Itk ad od vs) (kvs.map fun kv => kD kv.1) (fun h => h[i]? = some (.rdd kvs)) := by
  intro j r H h e k rp g
  have q1 : H ad = some (.frz od (.dK vs)) := k.frz _ _ _ q
  have ln := relP_len rl
  refine ⟨fun d hd => ?_, fun hj => ⟨q1, by rw [← ln]; simpa using hj⟩⟩
  rw [List.getElem?_map] at hd
  obtain ⟨p, hp, rfl⟩ := Option.map_eq_some_iff.mp hd
  obtain ⟨u, hu, e1, _⟩ := relP_get rl hp
  refine ⟨⟨q1, (List.getElem?_eq_some_iff.mp hu).1⟩, fun y H' ⟨e2, k', v', e3, e4⟩ => ?_⟩
  subst e2
  rw [hu] at e3
  cases e3
  subst e4
  exact ⟨Keep.refl _, rp, by rw [← e1]; exact kD_rel _⟩
theorem jrel_keysT {r0 : List Addr} {H0 : Hp} {i : Nat} {ad : Addr} {od : Obj} {kvs : List (List Key × D)} {vs : List (List Key × V)} (ea : r0[i]? = some ad) (q : H0 ad = some (.frz od (.dT vs))) (rl : RelP K mg r0 H0 kvs vs) :
    JRel K mg r0 H0 (Itkt ad od vs) (kvs.map fun kv => .tup (kv.1.map kD)) (fun h => h[i]? = some (.rdt kvs)) := by
  intro j r H h e k rp g
  have q1 : H ad = some (.frz od (.dT vs)) := k.frz _ _ _ q
  have ln := relP_len rl
  refine ⟨fun d hd => ?_, fun hj => ⟨q1, by rw [← ln]; simpa using hj⟩⟩
  rw [List.getElem?_map] at hd
  obtain ⟨p, hp, rfl⟩ := Option.map_eq_some_iff.mp hd
  obtain ⟨u, hu, e1, _⟩ := relP_get rl hp
  refine ⟨⟨q1, (List.getElem?_eq_some_iff.mp hu).1⟩, fun y H' ⟨e2, k', v', qq, e3, e4, e5⟩ => ?_⟩
  subst e2
  rw [hu] at e3
  cases e3
  subst e4
  exact ⟨Keep.refl _, rp, by rw [← e1]; exact .tup e5 (kDs_rel _)⟩
theorem iter_any {tg : Expr} {pins : List (Addr × Obj)} {s : Shared} {σ : L2.St} {R : It → Hp → Prop} {d : D} {v : V} {u : Value} (I : Inv X pins σ H s) (rp : Rep X.K X.mg r h H) (rl : RelD X.K X.mg r H d v) (rv : RelV v u)
    (p : PostI X.K X.mg W r σ H R (itA d h)) : wpAny (model X.prog X.w) X.A (pyIter u) (PIE X pins σ tg R) X.xe s := by
  unfold itA at p
  cases rl with
  | str z =>
    obtain ⟨t, rfl⟩ := rv
    have q := p r H _ (Ext.refl _) (Keep.refl _) rp jrel_str
    cases ha : z.cps.all (· < 128)
    · exact wpAny_pyIter_wide ha (pi_one (tk := s.toks) I _ (turn_str _ z t "str_iterator" (.inr rfl)) ⟨_, Heap.get?_push_size _ rfl, rfl, rfl⟩ q)
    · exact wpAny_pyIter_ascii ha (pi_one (tk := s.toks) I _ (turn_str _ z t "str_ascii_iterator" (.inl rfl)) ⟨_, Heap.get?_push_size _ rfl, rfl, rfl⟩ q)
  | @tup xs ad vs sq rls =>
    obtain rfl : u = Value.ref ad := rv
    obtain ⟨its, _, pt, _⟩ := I.tuple (SqT.of sq)
    exact wpAny_pyIter_tuple (show s.heap.IsTuple ad its.toArray from pt) (pi_one (tk := s.toks) I _ (turn_tuple ad _) ⟨_, Heap.get?_push_size _ rfl, rfl, rfl⟩ (p r H _ (Ext.refl _) (Keep.refl _) rp (jrel_tup (SqT.of sq) rls)))
  | @stp xs ad vs sq rls =>
    obtain rfl : u = Value.ref ad := rv
    obtain ⟨its, _, pt, _⟩ := I.tuple (sq.sq)
    exact wpAny_pyIter_tuple (show s.heap.IsTuple ad its.toArray from pt) (pi_one (tk := s.toks) I _ (turn_tuple ad _) ⟨_, Heap.get?_push_size _ rfl, rfl, rfl⟩ (p r H _ (Ext.refl _) (Keep.refl _) rp (jrel_tup (sq.sq) rls)))
  | @ref i ad ea =>
    obtain rfl : u = Value.ref ad := rv
    dsimp only at p
    split at p
    · rename_i xs hx
      obtain ⟨vs, sq, rls⟩ := list_at rp ea (.inl hx)
      obtain ⟨its, _, pl, _⟩ := I.list sq
      exact wpAny_pyIter_list pl.isList (pi_one (tk := s.toks) I _ (turn_list ad _) ⟨_, Heap.get?_push_size _ rfl, rfl, rfl⟩ (p r H _ (Ext.refl _) (Keep.refl _) rp (jrel_list ea fun h g => .inl g)))
    · rename_i xs hx
      obtain ⟨vs, sq, rls⟩ := list_at rp ea (.inr hx)
      obtain ⟨its, _, pl, _⟩ := I.list sq
      exact wpAny_pyIter_list pl.isList (pi_one (tk := s.toks) I _ (turn_list ad _) ⟨_, Heap.get?_push_size _ rfl, rfl, rfl⟩ (p r H _ (Ext.refl _) (Keep.refl _) rp (jrel_list ea fun h g => .inr g)))
    · rename_i kvs hx
      obtain ⟨od, vs, hd, rls⟩ := rp.obs _ _ ad hx ea
      obtain ⟨hs, hgd, hxd, es, ep, vs', hdt, hsz, kv, hm⟩ := I.frzK hd
      refine iter_keys hs hgd hxd hdt (pi_one (tk := s.toks) I _ (turn_keys _ hdt) ⟨_, Heap.get?_push_size _ rfl, rfl, ?_⟩ (p r H _ (Ext.refl _) (Keep.refl _) rp (jrel_keys ea hd rls)))
      rw [hsz] <;> rfl
    · rename_i kvs hx
      obtain ⟨od, vs, hd, rls⟩ := rp.obs _ _ ad hx ea
      obtain ⟨hs, hgd, hxd, es, ep, hdt, hsz, ent⟩ := I.frzT hd
      refine iter_keys hs hgd hxd hdt (pi_one (tk := s.toks) I _ (turn_keysT _ hdt) ⟨_, Heap.get?_push_size _ rfl, rfl, ?_⟩ (p r H _ (Ext.refl _) (Keep.refl _) rp (by rw [kD_fun]; exact jrel_keysT ea hd rls)))
      rw [hsz] <;> rfl
    · exact p.elim
  | _ => exact p.elim
theorem qi_any {tg : Expr} (ha : QE X W e ma) : QI X W tg e (iA ma) := by
  refine ⟨fun pins s σ H R I q => ?_⟩
  refine thn (ha.run pins s σ H _ I (rIt.bind (rr := rD) (m := ma) (f := itA) q)) fun u s1 ⟨v, H1, I1, rv, r1, s2, d, h1, rp1, rs1, rl1, p1⟩ => ?_
  exact iter_any I1 rp1 rl1 rv p1
end
end PM
end
section
set_option Elab.async false
set_option linter.all false
set_option maxRecDepth 100000
set_option maxHeartbeats 1000000
namespace PM
open PySem PySem.Spec PyProof.Rows L2

section
variable {X : Cx} {K : PySem.W.Frag} {mg : Str → Option Value} {r : List Addr} {H : Hp} {h : HP} {W : WX} {a b c e o : Expr} {es rest : List Expr} {ma mb mc : ME} {t : MA} {pos pos' apos cpos : Pos}

/-! ### keys that are tuples -/
def keyDs : List D → Option (List Key)
  | [] => some []
  | d :: ds => match keyD d, keyDs ds with
    | some k, some ks => some (k :: ks)
    | _, _ => none
def keyT : D → Option (List Key)
  | .tup xs => keyDs xs
  | _ => none
theorem keyDs_rel : ∀ {ds : List D} {vs : List V} {ks : List Key}, RelDs K mg r H ds vs → keyDs ds = some ks → vs = ks.map kV
  | _, _, _, .nil, e => by cases e; rfl
  | _, _, _, .cons (x := d) a t, e => by
    unfold keyDs at e
    split at e
    · rename_i k ks e1 e2
      cases e
      rw [key_rel a e1, keyDs_rel t e2]; rfl
    · cases e
theorem keyT_rel {d : D} {v : V} {ks : List Key} (rl : RelD K mg r H d v) (e : keyT d = some ks) : ∃ ad, v = .ref ad ∧ H ad = some (.tup (ks.map kV)) := by
  cases rl with
  | @tup xs ad vs q rls => exact ⟨ad, rfl, by rw [← keyDs_rel rls e]; exact q⟩
  | _ => cases e
/-- what a dict holds at a key -/
def lookD (o : Option Ob) (y : D) : Option (Option D) := match o with
  | some (.dic kvs) => (keyD y).map (getK kvs)
  | some (.rdd kvs) => (keyD y).map (getK kvs)
  | some (.dit kvs) => (keyT y).map (getK kvs)
  | some (.rdt kvs) => (keyT y).map (getK kvs)
  | _ => none
def RelOD (K : PySem.W.Frag) (mg : Str → Option Value) (r : List Addr) (H : Hp) : Option D → Option V → Prop
  | some d, some v => RelD K mg r H d v
  | none, none => True
  | _, _ => False
theorem getK_od {κ : Type} [DecidableEq κ] : ∀ {kvs : List (κ × D)} {vs : List (κ × V)} {k : κ}, RelP K mg r H kvs vs → RelOD K mg r H (getK kvs k) (valV vs k)
  | _, _, _, .nil => trivial
  | (k1, d1) :: kvs, (k2, v2) :: vs, k, .cons q t => by
    obtain ⟨q1, q2⟩ := q
    have q1 : k1 = k2 := q1
    subst q1
    by_cases hk : k1 = k
    · have e1 : getK ((k1, d1) :: kvs) k = some d1 := by simp [getK, List.find?_cons, hk]
      rw [e1, valV_pos hk]; exact q2
    · have e1 : getK ((k1, d1) :: kvs) k = getK kvs k := by simp [getK, List.find?_cons, hk]
      rw [e1, valV_neg hk]; exact getK_od t
theorem RelOD.mono {r' : List Addr} {H' : Hp} (e : Ext r r') (k : Keep H H') : ∀ {o : Option D} {o' : Option V}, RelOD K mg r H o o' → RelOD K mg r' H' o o'
  | some _, some _, h => RelD.mono e k h
  | none, none, _ => trivial
theorem lookD_ok {i : Nat} {ad : Addr} {y : D} {v : V} {o : Option D} (rp : Rep K mg r h H) (ea : r[i]? = some ad) (ry : RelD K mg r H y v) (e : lookD h[i]? y = some o) : ∃ o', DGet H ad v o' ∧ RelOD K mg r H o o' := by
  unfold lookD at e
  split at e
  · rename_i kvs hk
    obtain ⟨k, ek, e⟩ := Option.map_eq_some_iff.mp e
    obtain ⟨vs, q, rls⟩ := rp.obs _ _ ad hk ea
    exact ⟨_, by rw [key_rel ry ek]; exact DGet.k q, by rw [← e]; exact getK_od rls⟩
  · rename_i kvs hk
    obtain ⟨k, ek, e⟩ := Option.map_eq_some_iff.mp e
    obtain ⟨od, vs, q, rls⟩ := rp.obs _ _ ad hk ea
    exact ⟨_, by rw [key_rel ry ek]; exact .inl ⟨vs, k, .inr ⟨od, q⟩, rfl, rfl⟩, by rw [← e]; exact getK_od rls⟩
  · rename_i kvs hk
    obtain ⟨k, ek, e⟩ := Option.map_eq_some_iff.mp e
    obtain ⟨vs, q, rls⟩ := rp.obs _ _ ad hk ea
    obtain ⟨bd, ev, qb⟩ := keyT_rel ry ek
    exact ⟨_, by rw [ev]; exact DGet.t q qb, by rw [← e]; exact getK_od rls⟩
  · rename_i kvs hk
    obtain ⟨k, ek, e⟩ := Option.map_eq_some_iff.mp e
    obtain ⟨od, vs, q, rls⟩ := rp.obs _ _ ad hk ea
    obtain ⟨bd, ev, qb⟩ := keyT_rel ry ek
    exact ⟨_, by rw [ev]; exact .inr ⟨vs, k, bd, .inr ⟨od, q⟩, rfl, qb, rfl⟩, by rw [← e]; exact getK_od rls⟩
  · cases e
/-- a dict's entry is stored -/
def putD (i : Nat) (y v : D) (h : HP) : Option HP := match h[i]? with
  | some (.dic kvs) => (keyD y).bind fun k => if kvs.length < 1000000 then some (h.set i (.dic (setK kvs k v))) else none
  | some (.dit kvs) => (keyT y).bind fun k => if kvs.length < 1000000 then some (h.set i (.dit (setK kvs k v))) else none
  | _ => none
theorem putD_ok {i : Nat} {ad : Addr} {y v : D} {vy vv : V} {h' : HP} (rp : Rep K mg r h H) (ea : r[i]? = some ad) (ry : RelD K mg r H y vy) (rv : RelD K mg r H v vv) (e : putD i y v h = some h') :
    ∃ H', DPut H ad vy vv H' ∧ Keep H H' ∧ Rep K mg r h' H' := by
  unfold putD at e
  split at e
  · rename_i kvs hk
    obtain ⟨k, ek, e⟩ := Option.bind_eq_some_iff.mp e
    by_cases hz : kvs.length < 1000000
    · rw [if_pos hz] at e
      cases e
      obtain ⟨vs, q, rls⟩ := rp.obs _ _ ad hk ea
      have st := rp.set (u := .dK (putK vs k vv)) (o' := .dic (setK kvs k v)) hk rfl rfl ea fun kp => ⟨_, upd_same, setK_rel (rv.mono (Ext.refl _) kp) (RelP.mono (Ext.refl _) kp rls)⟩
      exact ⟨_, by rw [key_rel ry ek]; exact DPut.k q (line_lt (by rw [← relP_len rls]; exact hz)), st.2, st.1⟩
    · rw [if_neg hz] at e; cases e
  · rename_i kvs hk
    obtain ⟨k, ek, e⟩ := Option.bind_eq_some_iff.mp e
    by_cases hz : kvs.length < 1000000
    · rw [if_pos hz] at e
      cases e
      obtain ⟨vs, q, rls⟩ := rp.obs _ _ ad hk ea
      obtain ⟨bd, ev, qb⟩ := keyT_rel ry ek
      have st := rp.set (u := .dT (putK vs k vv)) (o' := .dit (setK kvs k v)) hk rfl rfl ea fun kp => ⟨_, upd_same, setK_rel (rv.mono (Ext.refl _) kp) (RelP.mono (Ext.refl _) kp rls)⟩
      exact ⟨_, by rw [ev]; exact DPut.t q qb (line_lt (by rw [← relP_len rls]; exact hz)), st.2, st.1⟩
    · rw [if_neg hz] at e; cases e
  · cases e
/-- {} with tuples as keys to come -/
def mDictT : ME := fun _ h => .ok (.ref h.length) (h ++ [.dit []])
theorem qe_dictT : QE X W (.Dict [] [] pos) mDictT := pe_dnewT.imp fun σ H Q ⟨r, s, h, rp, rs, p⟩ => by
  intro ad hn
  refine p (r ++ [ad]) _ _ (Ext.one r ad) (Keep.new hn) (rp.new hn ⟨[], upd_same, .nil⟩) (.ref ?_)
  rw [List.getElem?_append_right (by rw [rp.len]; exact Nat.le_refl _), rp.len]; simp

/-! ### in -/
def inC (x y : D) (h : HP) : Option Bool := match y with
  | .ref i => match lookD h[i]? x with
    | some o => some o.isSome
    | none => match inB x y h with
      | some b => some b
      | none => match toPy 60 h x, toPy 61 h y with
        | some p, some (.list ps) => if SeqAt.shaped p = true ∧ SeqAt.shaped (.list ps) = true then some (ps.any fun z => PyData.eqv z p) else none
        | _, _ => none
  | _ => inB x y h
def inH (neg : Bool) : D → D → HP → Option (D × HP) := fun x y h => (inC x y h).map fun b => (.bl (if neg then !b else b), h)
theorem isSome_od : ∀ {o : Option D} {o' : Option V}, RelOD K mg r H o o' → o'.isSome = o.isSome
  | some _, some _, _ => rfl
  | none, none, _ => rfl
theorem inC_ok {pins : List (Addr × Obj)} {s : Shared} {σ : L2.St} {x y : D} {v u : V} {bb : Bool} (rp : Rep K mg r h H) (rx : RelD K mg r H x v) (ry : RelD K mg r H y u) (e : inC x y h = some bb) :
    (∃ ad o', u = .ref ad ∧ DGet H ad v o' ∧ o'.isSome = bb) ∨ inB x y h = some bb ∨ ∃ d ds, Dp K H v d ∧ Dp K H u (.list ds) ∧ SeqAt.shaped d = true ∧ SeqAt.shaped (.list ds) = true ∧ (ds.any fun z => PyData.eqv z d) = bb := by
  unfold inC at e
  cases ry with
  | @ref i ad ea =>
    dsimp only at e
    split at e
    · rename_i o ho
      cases e
      obtain ⟨o', g, q⟩ := lookD_ok rp ea rx ho
      exact .inl ⟨ad, o', rfl, g, isSome_od q⟩
    · split at e
      · rename_i b' hb
        cases e
        exact .inr (.inl hb)
      · split at e
        · rename_i p ps e1 e2
          split at e
          · rename_i hz
            cases e
            exact .inr (.inr ⟨p, ps, toPy_ok rp 60 x p v e1 rx, toPy_ok rp 61 _ _ _ e2 (.ref ea), hz.1, hz.2, rfl⟩)
          · cases e
        · cases e
  | _ => exact .inr (.inl e)
theorem op_inH (hu : X.A.units + 65 < cLine) : OpR X (compareOp .In) (rV2 X.K X.mg (inH false)) := by
  intro pins s σ H x y v u Q I rx ry ⟨r, a, b, h, rp, ra, rb, p⟩
  unfold inH at p
  cases e : inC a b h with
  | none => rw [e] at p; exact p.elim
  | some z =>
    rw [e] at p
    rcases inC_ok (pins := pins) (s := s) (σ := σ) rp ra rb e with ⟨ad, o', rfl, g, ez⟩ | q | ⟨d, ds, z1, z2, z3, z4, z5⟩
    · obtain rfl : u = Value.ref ad := ry
      exact d_in (by omega) I g rx fun s' I' => ⟨.bl _, H, I', rfl, by rw [ez]; exact p.here rp (.bl _)⟩
    · exact op_inG pins s σ H _ _ v u Q I rx ry ⟨r, a, b, h, rp, ra, rb, by unfold inG; rw [q]; exact p⟩
    · exact op_inD hu pins s σ H _ _ v u Q I rx ry ⟨d, ds, z1, z2, z3, z4, by rw [z5]; exact p.here rp (.bl _)⟩
theorem op_ninH (hu : X.A.units + 65 < cLine) : OpR X (compareOp .NotIn) (rV2 X.K X.mg (inH true)) := by
  intro pins s σ H x y v u Q I rx ry ⟨r, a, b, h, rp, ra, rb, p⟩
  unfold inH at p
  cases e : inC a b h with
  | none => rw [e] at p; exact p.elim
  | some z =>
    rw [e] at p
    rcases inC_ok (pins := pins) (s := s) (σ := σ) rp ra rb e with ⟨ad, o', rfl, g, ez⟩ | q | ⟨d, ds, z1, z2, z3, z4, z5⟩
    · obtain rfl : u = Value.ref ad := ry
      exact d_notIn (by omega) I g rx fun s' I' => ⟨.bl _, H, I', rfl, by rw [ez]; exact p.here rp (.bl _)⟩
    · exact op_ninG pins s σ H _ _ v u Q I rx ry ⟨r, a, b, h, rp, ra, rb, by unfold inG; rw [q]; exact p⟩
    · exact op_notInD hu pins s σ H _ _ v u Q I rx ry ⟨d, ds, z1, z2, z3, z4, by rw [z5]; exact p.here rp (.bl _)⟩

/-! ### x[y] -/
def itemH : D → D → HP → Option (D × HP) := fun x y h => match x with
  | .ref j => match lookD h[j]? y with
    | some (some d) => some (d, h)
    | some none => none
    | none => itemG x y h
  | _ => itemG x y h
theorem qe_subH (hu : X.A.units + 1 < cLine) (ha : QE X W a ma) (hb : QE X W b mb) (hs : PlainIx b := by exact fun _ _ => rfl) (hs2 : NoSl b := by exact fun _ _ => rfl) : QE X W (.Subscript a b pos) (m2 itemH ma mb) := by
  have h1 := qe_sub (pos := pos) hu ha hb hs hs2
  have h2 := pe_dget (pos := pos) hu ha hb hs2
  refine ⟨fun pins s σ H Q I q => ?_⟩
  obtain ⟨r0, s0, h0, rp0, rs0, p0⟩ := q
  by_cases hd : ∃ x h1 y h2 j o, ma s0 h0 = .ok x h1 ∧ mb s0 h1 = .ok y h2 ∧ x = .ref j ∧ lookD h2[j]? y = some o
  · refine h2.run pins s σ H Q I ?_
    obtain ⟨x, h1, y, h2, j, o, e1, e2, rfl, e4⟩ := hd
    refine ⟨r0, s0, h0, rp0, rs0, ?_⟩
    have p1 : Post X.K X.mg rD W r0 σ H Q (ofO (itemH (.ref j) y h2)) := by
      have z : m2 itemH ma mb s0 h0 = ofO (itemH (.ref j) y h2) := by unfold m2; rw [e1]; show (mb s0 h1).bind _ = _; rw [e2]; rfl
      rw [← z]; exact p0
    rw [e1]
    intro r1 v H1 x1 k1 rp1 rl1
    refine ⟨r1, s0, h1, rp1, rs0.mono x1 k1, ?_⟩
    rw [e2]
    have p3 := p1.ofO
    unfold itemH at p3
    dsimp only at p3
    rw [e4] at p3
    intro r2 u H2 x2 k2 rp2 rl2
    cases o with
    | none => exact p3.elim
    | some d =>
      cases rl1 with
      | @ref _ ad ea =>
        obtain ⟨o', g, q⟩ := lookD_ok rp2 (x2.get ea) rl2 e4
        cases o' with
        | none => exact (show False from q).elim
        | some w => exact ⟨ad, w, rfl, g, p3 r2 w H2 (x1.trans x2) (k1.trans k2) rp2 q⟩
  · refine h1.run pins s σ H Q I ⟨r0, s0, h0, rp0, rs0, ?_⟩
    have z : m2 itemH ma mb s0 h0 = m2 itemG ma mb s0 h0 := by
      unfold m2
      cases e1 : ma s0 h0 with
      | ok x h1 =>
        show ((mb s0 h1).bind fun y h => ofO (itemH x y h)) = (mb s0 h1).bind fun y h => ofO (itemG x y h)
        cases e2 : mb s0 h1 with
        | ok y h2 =>
          show ofO (itemH x y h2) = ofO (itemG x y h2)
          congr 1
          unfold itemH
          cases x with
          | ref j =>
            dsimp only
            split
            · rename_i d e4
              exact absurd ⟨_, h1, y, h2, j, _, e1, e2, rfl, e4⟩ hd
            · rename_i e4
              exact absurd ⟨_, h1, y, h2, j, _, e1, e2, rfl, e4⟩ hd
            · rfl
          | _ => rfl
        | exc c fs h2 => rfl
        | bad => rfl
      | exc c fs h1 => rfl
      | bad => rfl
    rw [← z]; exact p0

/-! ### d.get(k, x), d.setdefault(k, x) -/
def getG : D → List D → HP → Option (D × HP) := fun x ds h => match x, ds with
  | .ref i, [y, z] => (lookD h[i]? y).map fun o => (o.getD z, h)
  | .ref i, [y] => (lookD h[i]? y).map fun o => (o.getD .non, h)
  | _, _ => none
theorem getD_od : ∀ {o : Option D} {o' : Option V} {z : D} {w : V}, RelOD K mg r H o o' → RelD K mg r H z w → RelD K mg r H (o.getD z) (o'.getD w)
  | some _, some _, _, _, h, _ => h
  | none, none, _, _, _, h => h
theorem mt_getG (hu : X.A.units + 1 < cLine) : MtR X "dict.get" (rVm X.K X.mg getG) := by
  intro pins s σ H x xs v us Q I rx rv ⟨r, d, ds, h, rp, rl, rls, p⟩
  unfold getG at p
  split at p
  · rename_i i y z
    obtain ⟨v1, v2, rfl, ry, rz⟩ := two_of rls
    cases rl with
    | @ref _ ad ea =>
      cases e : lookD h[i]? y with
      | none => rw [e] at p; exact p.elim
      | some o =>
        rw [e] at p
        obtain ⟨o', g, q⟩ := lookD_ok rp ea ry e
        obtain rfl : v = Value.ref ad := rx
        cases rv with
        | cons rv1 rr =>
          cases rr with
          | cons rv2 rr =>
            cases rr
            exact d_get2 hu I g rv1 rv2 fun w' s' I' rw' => ⟨_, H, I', rw', p.here rp (getD_od q rz)⟩
  · rename_i i y
    obtain ⟨v1, rfl, ry⟩ := one_of (ds := []) rls
    cases rl with
    | @ref _ ad ea =>
      cases e : lookD h[i]? y with
      | none => rw [e] at p; exact p.elim
      | some o =>
        rw [e] at p
        obtain ⟨o', g, q⟩ := lookD_ok rp ea ry e
        obtain rfl : v = Value.ref ad := rx
        cases rv with
        | cons rv1 rr =>
          cases rr
          exact d_get1 hu I g rv1 fun w' s' I' rw' => ⟨_, H, I', rw', p.here rp (getD_od q .non)⟩
  · exact p.elim
theorem d_setdT {pins : List (Addr × Obj)} {σ : L2.St} {s : Shared} {ad bd : Addr} {kvs : List (List Key × V)} {k : List Key} {z : V} {rz : Value} {A : Around} {E : Value → Shared → Prop} {Q : Value → Shared → Prop} (hu : A.units + 1 < cLine) (I : Inv X pins σ H s) (hd : H ad = some (.dT kvs))
    (hb : H bd = some (.tup (k.map kV))) (rd : RelV z rz) (hl : kvs.length < sizeLine) (h1 : ∀ v, valV kvs k = some v → ∀ w' s', Inv X pins σ H s' → RelV v w' → Q w' s')
    (h2 : valV kvs k = none → ∀ s', Inv X pins σ (upd H ad (.dT (putK kvs k z))) s' → Q rz s') : wpAny (model X.prog X.w) A (call (.builtin "dict.setdefault") [.ref ad, .ref bd, rz]) Q E s := by
  obtain ⟨hz0, hsm, xs, rel, dd⟩ := dt_of I.hok hd
  have hz : xs.length ≤ sizeLine := by rw [← Paired.length rel]; exact hz0
  have hl2 : (putK kvs k z).length ≤ sizeLine := by have := length_putK kvs k z; omega
  have rv := rel.val k
  refine call_setdefault_heap (hsz := hz) (tupleKind_room_in1 hu) (key_of I.hok hb) hsm dd (fun p hp => ?_) fun hn h' dd' hs => ?_
  · rw [hp] at rv
    cases q0 : valV kvs k with
    | none => rw [q0] at rv; exact (show False from rv).elim
    | some v0 => rw [q0] at rv; exact h1 v0 q0 _ _ (I.tok _) rv
  · rw [hn] at rv
    cases q0 : valV kvs k with
    | some v0 => rw [q0] at rv; exact (show False from rv).elim
    | none =>
      obtain ⟨q, es, ep, hq, g2, g3, g4, _, g5⟩ := dd'
      refine h2 q0 _ (d_write I (by rw [hd]; exact True.intro) hs ⟨q, hq⟩ ⟨hl2, hsm, _, (rel.put k hb rd).keeps fun c ys ec => ?_, q, es, ep, hq, g2, g3, g4, g5⟩)
      rw [upd_ne (ne_of ec hd (fun z => nomatch z))]
      exact ec
def setdG : D → List D → HP → Option (D × HP) := fun x ds h => match x, ds with
  | .ref i, [y, z] => match h[i]? with
    | some (.dic kvs) => if kvs.length < 1000000 then (keyD y).bind fun k => match getK kvs k with
      | some d => some (d, h)
      | none => some (z, h.set i (.dic (setK kvs k z))) else none
    | some (.dit kvs) => if kvs.length < 1000000 then (keyT y).bind fun k => match getK kvs k with
      | some d => some (d, h)
      | none => some (z, h.set i (.dit (setK kvs k z))) else none
    | _ => none
  | _, _ => none
theorem mt_setdG (hu : X.A.units + 1 < cLine) : MtR X "dict.setdefault" (rVm X.K X.mg setdG) := by
  intro pins s σ H x xs v us Q I rx rv ⟨r, d, ds, h, rp, rl, rls, p⟩
  unfold setdG at p
  split at p
  · rename_i i y z
    obtain ⟨v1, v2, rfl, ry, rz⟩ := two_of rls
    cases rl with
    | @ref _ ad ea =>
      obtain rfl : v = Value.ref ad := rx
      cases rv with
      | cons rv1 rr =>
        cases rr with
        | cons rv2 rr =>
          cases rr
          split at p
          · rename_i kvs hk
            obtain ⟨vs, q, rlv⟩ := rp.obs _ _ ad hk ea
            by_cases hz : kvs.length < 1000000
            · rw [if_pos hz] at p
              cases ek : keyD y with
              | none => rw [ek] at p; exact p.elim
              | some k =>
                rw [ek, Option.bind_some] at p
                obtain rfl := key_rel ry ek
                have od := getK_od (k := k) rlv
                refine d_setd I q rv1 rv2 (line_lt (by rw [← relP_len rlv]; exact hz)) (fun w hw w' s' I' rw' => ?_) fun hn w' s' I' rw' => ?_
                · rw [hw] at od
                  cases g : getK kvs k with
                  | none => rw [g] at od; exact (show False from od).elim
                  | some d0 =>
                    rw [g] at p od
                    exact ⟨w, H, I', rw', p.here rp od⟩
                · rw [hn] at od
                  cases g : getK kvs k with
                  | some d0 => rw [g] at od; exact (show False from od).elim
                  | none =>
                    rw [g] at p
                    have st := rp.set (u := .dK (putK vs k v2)) (o' := .dic (setK kvs k z)) hk rfl rfl ea fun kp => ⟨_, upd_same, setK_rel (rz.mono (Ext.refl _) kp) (RelP.mono (Ext.refl _) kp rlv)⟩
                    exact ⟨v2, _, I', rw', p r _ _ (Ext.refl _) st.2 st.1 (rz.mono (Ext.refl _) st.2)⟩
            · rw [if_neg hz] at p; exact p.elim
          · rename_i kvs hk
            obtain ⟨vs, q, rlv⟩ := rp.obs _ _ ad hk ea
            by_cases hz : kvs.length < 1000000
            · rw [if_pos hz] at p
              cases ek : keyT y with
              | none => rw [ek] at p; exact p.elim
              | some k =>
                rw [ek, Option.bind_some] at p
                obtain ⟨bd, rfl, qb⟩ := keyT_rel ry ek
                have od := getK_od (k := k) rlv
                have rv1 : _ = Value.ref bd := rv1
                subst rv1
                refine d_setdT hu I q qb rv2 (line_lt (by rw [← relP_len rlv]; exact hz)) (fun w hw w' s' I' rw' => ?_) fun hn s' I' => ?_
                · rw [hw] at od
                  cases g : getK kvs k with
                  | none => rw [g] at od; exact (show False from od).elim
                  | some d0 =>
                    rw [g] at p od
                    exact ⟨w, H, I', rw', p.here rp od⟩
                · rw [hn] at od
                  cases g : getK kvs k with
                  | some d0 => rw [g] at od; exact (show False from od).elim
                  | none =>
                    rw [g] at p
                    have st := rp.set (u := .dT (putK vs k v2)) (o' := .dit (setK kvs k z)) hk rfl rfl ea fun kp => ⟨_, upd_same, setK_rel (rz.mono (Ext.refl _) kp) (RelP.mono (Ext.refl _) kp rlv)⟩
                    exact ⟨v2, _, I', rv2, p r _ _ (Ext.refl _) st.2 st.1 (rz.mono (Ext.refl _) st.2)⟩
            · rw [if_neg hz] at p; exact p.elim
          · exact p.elim
  · exact p.elim
end
end PM
end
section
set_option Elab.async false
set_option linter.all false
set_option maxRecDepth 100000
set_option maxHeartbeats 1000000
namespace PM
open PySem PySem.Spec PyProof.Rows L2

section
variable {X : Cx} {K : PySem.W.Frag} {mg : Str → Option Value} {r : List Addr} {H : Hp} {h : HP} {W : WX} {a b c e o : Expr} {es rest : List Expr} {ma mb mc : ME} {t : MA} {pos pos' apos cpos : Pos}

/-! ### items of a dict that is locked, keys of tuples -/
def ItiT (d : Addr) (od : Obj) (kvs : List (List Key × V)) : It :=
  ⟨fun i H => H d = some (.frz od (.dT kvs)) ∧ i < kvs.length,
   fun i H x H' => ∃ T k v q, kvs[i]? = some (k, v) ∧ x = .ref T ∧ H T = none ∧ H q = some (.tup (k.map kV)) ∧ H' = upd H T (.tup [.ref q, v]),
   fun i H => H d = some (.frz od (.dT kvs)) ∧ kvs.length ≤ i⟩
theorem frzT2 {pins : List (Addr × Obj)} {σ : L2.St} {s : Shared} {d : Addr} {od : Obj} {kvs : List (List Key × V)} (I : Inv X pins σ H s) (hd : H d = some (.frz od (.dT kvs))) :
    (d == sysModules) = false ∧ ∃ (es : Array DictEntry) (ep : Nat), DT.Raw s.heap d es ep ∧ od.data = .dict es ep ∧ es.size = kvs.length ∧
      ∀ (i : Nat) (k : List Key) (v : V), kvs[i]? = some (k, v) → ∃ (en : DictEntry) (q : Addr), es[i]? = some en ∧ en.key = .ref q ∧ H q = some (.tup (k.map kV)) ∧ RelV v en.val := by
  obtain ⟨g1, _, g2, xs, pr, o', es, ep, ho, hx, hdt, he, _⟩ := I.hok d _ hd
  rw [g1] at ho
  cases ho
  refine ⟨g2, es, ep, ⟨_, g1, hx, hdt⟩, hdt, ?_, fun i k v z => ?_⟩
  · rw [size_of_entries he, ← Paired.length pr]
  · obtain ⟨y, hy, z1, z2, z3⟩ := L2.paired_get pr z
    have q := entry_at he i
    rw [hy] at q
    exact ⟨_, y.2.1, q, rfl, z2, z3⟩
theorem turn_itemsT {P : Program} {w : World} {d : Addr} {od : Obj} {kvs : List (List Key × V)} {elts : List Expr} {kk : Nat} {tpos : Pos} {es : Array DictEntry} {ep : Nat} (it : Addr) (hod : od.data = .dict es ep) (hn : es.size = kvs.length) :
    Turn P w K (.Tuple elts kk tpos) (ItiT d od kvs) [it] it (fun i h => ∃ ok ov, IsItemIter h it d i es.size ep ok ov) where
  mem := by simp
  obj := fun i h ⟨_, _, q⟩ b hb => by
    obtain rfl : b = it := by simpa using hb
    exact ⟨_, q, fun v z => nomatch z⟩
  keep := fun i h h' ⟨ok, ov, q⟩ k => ⟨ok, ov, k it (by simp) _ q⟩
  item := by
    intro X hP hw hK hc i pins s σ H E I hf ⟨ok, ov, q⟩ ⟨hd, hi⟩
    subst hP hw hK
    obtain ⟨g1, es', ep', raw, hdt, hsz, ent⟩ := frzT2 I hd
    obtain ⟨rfl, rfl⟩ := dict_ep hod hdt
    obtain ⟨⟨k, v⟩, hkv⟩ : ∃ p, kvs[i]? = some p := ⟨kvs[i], List.getElem?_eq_getElem hi⟩
    obtain ⟨en, qa, hen, hkey, hqa, rv⟩ := ent i k v hkv
    have hlt : it < s.heap.objs.size := Heap.lt_size q
    have hi2 : i < es'.size := by rw [hn]; exact hi
    have hget : es'[i] = en := by rw [Array.getElem?_eq_getElem hi2] at hen; exact Option.some.inj hen
    refine DT.nextI q raw hi2 fun h' hout hT hz hk => ?_
    rw [hget] at hout hT
    refine ⟨_, rfl, wpAny_letOwnedTupleGo_items (s := { s with heap := h' }) hout fun h2 he2 sb => ?_⟩
    have hT2 : h2.get? s.heap.objs.size = some { cls := .type "tuple", data := .seq #[en.key, en.val] } := (sb.2 _ (Nat.ne_of_gt hlt)).trans hT
    have hv : Vals [.ref qa, v] [en.key, en.val] := .cons (by rw [hkey]; rfl) (.cons rv .nil)
    have new : ObjOk X.prog X.w (upd H s.heap.objs.size (.tup [.ref qa, v])) h2 s.heap.objs.size (.tup [.ref qa, v]) := ⟨(by decide : 2 ≤ sizeLine), _, hv, ⟨_, hT2, rfl, _, rfl⟩⟩
    have I1 := I.turnedNew (h' := h2) (t' := s.toks) (ch := [it]) (fun b ob hb z => (sb.2 b (by simpa using hb)).trans (hk b ob (by simpa using hb) z)) hf (Nat.le_refl _) new
    refine ⟨.ref s.heap.objs.size, _, I1, rfl, ⟨_, k, v, qa, hkv, rfl, I.hok.fresh (Nat.le_refl _), hqa, rfl⟩, ⟨_, _, he2⟩, fun b hb => ?_⟩
    obtain rfl : b = it := by simpa using hb
    rw [upd_ne (Nat.ne_of_lt hlt)]
    exact (hf b hb).1
  done := by
    intro X hP hw hK hc i pins s σ H E I hf ⟨ok, ov, q⟩ ⟨hd, hi⟩
    subst hP hw hK
    obtain ⟨f0, f1, f2, f3, f4, f5⟩ := hf it (by simp)
    obtain ⟨g1, es', ep', raw, hdt, hsz, ent⟩ := frzT2 I hd
    obtain ⟨rfl, rfl⟩ := dict_ep hod hdt
    exact DT.endI (I.ok.hd hc) q raw (by rw [hn]; exact hi) fun h' eb => ⟨rfl, I.turned (t' := s.toks) (fun b ob hb z => eb b ob hb z) f0 f1 f3 f4 f5⟩
  self := fun A i s Q E ⟨_, _, q⟩ z => PySem.W.kcp_self q z
/-- the items of a locked dict -/
def itItems : D → HP → R (List D × (HP → Prop)) := fun d h => match d with
  | .ref i => match h[i]? with
    | some (.rdd kvs) => .ok (kvs.map fun kv => .tup [kD kv.1, kv.2], fun h => h[i]? = some (.rdd kvs)) h
    | some (.rdt kvs) => .ok (kvs.map fun kv => .tup [.tup (kv.1.map kD), kv.2], fun h => h[i]? = some (.rdt kvs)) h
    | _ => .bad
  | _ => .bad
def iItemsM (a : ME) : MI := fun s h => (a s h).bind itItems
theorem jrel_items {r0 : List Addr} {H0 : Hp} {i : Nat} {ad : Addr} {od : Obj} {kvs : List (Key × D)} {vs : List (Key × V)} (q : H0 ad = some (.frz od (.dK vs))) (rl : RelP K mg r0 H0 kvs vs) :
    JRel K mg r0 H0 (Iti ad od vs) (kvs.map fun kv => .tup [kD kv.1, kv.2]) (fun h => h[i]? = some (.rdd kvs)) := by
  intro j r H h e k rp g
  have q1 : H ad = some (.frz od (.dK vs)) := k.frz _ _ _ q
  have ln := relP_len rl
  refine ⟨fun d hd => ?_, fun hj => ⟨q1, by rw [← ln]; simpa using hj⟩⟩
  rw [List.getElem?_map] at hd
  obtain ⟨p, hp, rfl⟩ := Option.map_eq_some_iff.mp hd
  obtain ⟨u, hu, e1, e2⟩ := relP_get rl hp
  refine ⟨⟨q1, (List.getElem?_eq_some_iff.mp hu).1⟩, fun y H' ⟨T, k', v', e3, e4, e5, e6⟩ => ?_⟩
  rw [hu] at e3
  cases e3
  subst e4 e6
  have kn : Keep H (upd H T (.tup [kV p.1, v'])) := Keep.new e5
  refine ⟨by rw [← e1] at kn; exact kn, rp.fresh e5, .tup upd_same (.cons (by rw [← e1]; exact kD_rel _) (.cons ((e2.mono e k).mono (Ext.refl _) ?_) .nil))⟩
  rw [← e1] at kn; exact kn
theorem jrel_itemsT {r0 : List Addr} {H0 : Hp} {i : Nat} {ad : Addr} {od : Obj} {kvs : List (List Key × D)} {vs : List (List Key × V)} (q : H0 ad = some (.frz od (.dT vs))) (rl : RelP K mg r0 H0 kvs vs) :
    JRel K mg r0 H0 (ItiT ad od vs) (kvs.map fun kv => .tup [.tup (kv.1.map kD), kv.2]) (fun h => h[i]? = some (.rdt kvs)) := by
  intro j r H h e k rp g
  have q1 : H ad = some (.frz od (.dT vs)) := k.frz _ _ _ q
  have ln := relP_len rl
  refine ⟨fun d hd => ?_, fun hj => ⟨q1, by rw [← ln]; simpa using hj⟩⟩
  rw [List.getElem?_map] at hd
  obtain ⟨p, hp, rfl⟩ := Option.map_eq_some_iff.mp hd
  obtain ⟨u, hu, e1, e2⟩ := relP_get rl hp
  refine ⟨⟨q1, (List.getElem?_eq_some_iff.mp hu).1⟩, fun y H' ⟨T, k', v', qa, e3, e4, e5, e7, e6⟩ => ?_⟩
  rw [hu] at e3
  cases e3
  subst e4 e6
  have kn : Keep H (upd H T (.tup [.ref qa, v'])) := Keep.new e5
  exact ⟨kn, rp.fresh e5, .tup upd_same (.cons (.tup (kn.tup _ _ e7) (by rw [← e1]; exact kDs_rel _)) (.cons ((e2.mono e k).mono (Ext.refl _) kn) .nil))⟩
theorem qi_items {elts : List Expr} {kk : Nat} {tpos : Pos} (ha : QE X W e ma) (hbase : attributeBase e "items" X.env (eval e X.env) = eval e X.env := by rfl) (hline : (apos.endLine == cpos.line) = true := by rfl) :
    QI X W (.Tuple elts kk tpos) (.Call (.Attribute e "items" apos) [] [] cpos) (iItemsM ma) := by
  refine ⟨fun pins s σ H R I q => ?_⟩
  refine wpAny_Call_method (T := "dict") (id := "dict.items") hbase rfl hline F.plainAttrs_dict F.slot_dict_items F.type_dict_items (thn (ha.run pins s σ H _ I (rIt.bind (rr := rD) (m := ma) (f := itItems) q)) fun u s1 ⟨v, H1, I1, rv, r1, s2, d, h1, rp1, rs1, rl1, p1⟩ => ?_)
  unfold itItems at p1
  cases rl1 with
  | @ref i ad ea =>
    obtain rfl : u = Value.ref ad := rv
    dsimp only at p1
    have I2 : Inv X pins σ H1 { s1 with heap := s1.heap.push { cls := .type "dict_items", data := .fields #[.ref ad] } } := I1.kept (t' := s1.toks) fun b ob q => Heap.get?_push_of_some _ q
    split at p1
    · rename_i kvs hk
      obtain ⟨od, vs, hd, rls⟩ := rp1.obs _ _ ad hk ea
      obtain ⟨hs, hgd, hx, es, ep, vs', hdt, hsz, kv, hm⟩ := I1.frzK hd
      have hl : vs.length = vs'.length := Paired.length kv
      refine ⟨hm.dictOf.typeIs, hm.dictOf.mapOf.noDict, ?_⟩
      show wpAny _ _ (callWith cpos (.builtin "dict.items") [.ref ad] [] []) _ X.xe s1
      refine method_meetsIn F.slot_dict_items F.entry_dict_items rfl (PySem.evalArgs_none ⟨rfl, hm.dictOf.typeIs, F.args_dict_items_1 _, _, meets_dict_items (mixKind X.prog X.w) ad hs, ⟨vs', hm.dictOf⟩, ?_⟩)
      refine wpAny_pyIter_items (d := ad) (knd := mixKind X.prog X.w) ⟨_, Heap.get?_push_size _ rfl, rfl, rfl⟩ (hm.push _) (pi_one (tk := s1.toks) I2 _ (turn_items _ hdt) ⟨.none, .none, ?_⟩ (p1 r1 H1 _ (Ext.refl _) (Keep.refl _) rp1 (jrel_items hd rls)))
      rw [hl]
      exact Heap.get?_push_size _ rfl
    · rename_i kvs hk
      obtain ⟨od, vs, hd, rls⟩ := rp1.obs _ _ ad hk ea
      obtain ⟨hs, es, ep, raw, hdt, hsz, ent⟩ := frzT2 I1 hd
      refine ⟨raw.typeIs, fun b z => ?_, ?_⟩
      · cases z
        obtain ⟨o, ho, hc, _⟩ := raw
        exact ⟨o, ho, hc.2.1⟩
      · show wpAny _ _ (callWith cpos (.builtin "dict.items") [.ref ad] [] []) _ X.xe s1
        refine method_meetsIn F.slot_dict_items F.entry_dict_items rfl (PySem.evalArgs_none ⟨rfl, raw.typeIs, F.args_dict_items_1 _, _, DT.meetsItems (es := es) (ep := ep) hs, ⟨raw, ?_⟩⟩)
        exact DT.iterI (d := ad) ⟨_, Heap.get?_push_size _ rfl, rfl, rfl⟩ (raw.push _) (pi_one (tk := s1.toks) I2 _ (turn_itemsT _ hdt hsz) ⟨.none, .none, Heap.get?_push_size _ rfl⟩ (p1 r1 H1 _ (Ext.refl _) (Keep.refl _) rp1 (jrel_itemsT hd rls)))
    · exact p1.elim
  | _ => exact p1.elim
end
end PM
end
section
set_option Elab.async false
set_option linter.all false
set_option maxRecDepth 100000
set_option maxHeartbeats 1000000
namespace PM
open PySem PySem.Spec PyProof.Rows L2

/-! ### a dict is locked while it is walked -/
/-- the abstract heap's thing, and that thing locked -/
def lkO (o : Ob) : Option Ob := match o with
  | .dic kvs => some (.rdd kvs)
  | .dit kvs => some (.rdt kvs)
  | _ => none
section
variable {X : Cx} {K : PySem.W.Frag} {mg : Str → Option Value} {r : List Addr} {H : Hp} {h : HP} {W : WX} {e : Expr} {me : ME} {n : Nat} {ad : Addr}
/-- what a lock is: the thing u of the abstract heap, its plain form -/
structure Lk (K : PySem.W.Frag) (mg : Str → Option Value) (o o' : Ob) (u : HO) : Prop where
  mt : Mut (some u)
  lock : ∀ r H a od, H a = some u → RepO K mg r H o a → RepO K mg r (upd H a (.frz od u)) o' a
  back : ∀ r0 H0 r H a od, Ext r0 r → Keep H0 H → H0 a = some (.frz od u) → RepO K mg r0 H0 o' a → H a = some (.frz od u) → RepO K mg r (upd H a u) o a
  uq1 : uq o = true
  uq2 : uq o' = true
  mu1 : mu o = true
  mu2 : mu o' = false
  nt : ∀ xs, u ≠ .tup xs
  nf : ∀ ob v, u ≠ .frz ob v
  nx : ∀ fs, u ≠ .xd fs
mutual
theorem RelD.unl {od : Obj} {u : HO} {a : Addr} (hu : H a = some (.frz od u)) (nt : ∀ xs, u ≠ .tup xs) {d : D} {v : V} (q : RelD K mg r H d v) : RelD K mg r (upd H a u) d v := match q with
  | .non => .non
  | .bl b => .bl b
  | .int i => .int i
  | .str x => .str x
  | .tup s t => .tup (by rw [upd_ne (ne_of s hu (fun z => nomatch z))]; exact s) (RelDs.unl hu nt t)
  | .stp s t => .stp (by
      rcases s with ⟨o, e, d⟩ | s
      · exact .inl ⟨o, by rw [upd_ne (ne_of e hu (fun z => by injection z with z1 z2; exact nt _ z2.symm))]; exact e, d⟩
      · exact .inr s) (RelDs.unl hu nt t)
  | .ref q => .ref q
  | .fn q => .fn q
  | .ty n => .ty n
theorem RelDs.unl {od : Obj} {u : HO} {a : Addr} (hu : H a = some (.frz od u)) (nt : ∀ xs, u ≠ .tup xs) {d : List D} {v : List V} (q : RelDs K mg r H d v) : RelDs K mg r (upd H a u) d v := match q with
  | .nil => .nil
  | .cons a b => .cons (RelD.unl hu nt a) (RelDs.unl hu nt b)
end
theorem RelP.unl {κ : Type} {od : Obj} {u : HO} {a : Addr} (hu : H a = some (.frz od u)) (nt : ∀ xs, u ≠ .tup xs) : ∀ {ds : List (κ × D)} {vs : List (κ × V)}, RelP K mg r H ds vs → RelP K mg r (upd H a u) ds vs
  | _, _, .nil => .nil
  | _, _, .cons q t => .cons ⟨q.1, q.2.unl hu nt⟩ (RelP.unl hu nt t)
theorem lk_dic {kvs : List (Key × D)} {vs : List (Key × V)} (R0 : RelP K mg r H kvs vs) (hv : H ad = some (.dK vs)) : Lk K mg (.dic kvs) (.rdd kvs) (.dK vs) where
  mt := trivial
  lock := fun r H a od e ⟨vs', q, t⟩ => by
    rw [e] at q; cases q
    exact ⟨od, vs, upd_same, RelP.mono (Ext.refl _) (Keep.mut e (fun _ z => nomatch z) (fun _ _ z => nomatch z) (fun _ z => nomatch z)) t⟩
  back := fun r0 H0 r H a od x k e0 ⟨od', vs', q, t⟩ e => by
    rw [e0] at q; cases q
    exact ⟨vs, upd_same, RelP.unl e (fun _ z => nomatch z) (RelP.mono x k t)⟩
  uq1 := rfl
  uq2 := rfl
  mu1 := rfl
  mu2 := rfl
  nt := fun _ z => nomatch z
  nf := fun _ _ z => nomatch z
  nx := fun _ z => nomatch z
theorem lk_dit {kvs : List (List Key × D)} {vs : List (List Key × V)} (R0 : RelP K mg r H kvs vs) (hv : H ad = some (.dT vs)) : Lk K mg (.dit kvs) (.rdt kvs) (.dT vs) where
  mt := trivial
  lock := fun r H a od e ⟨vs', q, t⟩ => by
    rw [e] at q; cases q
    exact ⟨od, vs, upd_same, RelP.mono (Ext.refl _) (Keep.mut e (fun _ z => nomatch z) (fun _ _ z => nomatch z) (fun _ z => nomatch z)) t⟩
  back := fun r0 H0 r H a od x k e0 ⟨od', vs', q, t⟩ e => by
    rw [e0] at q; cases q
    exact ⟨vs, upd_same, RelP.unl e (fun _ z => nomatch z) (RelP.mono x k t)⟩
  uq1 := rfl
  uq2 := rfl
  mu1 := rfl
  mu2 := rfl
  nt := fun _ z => nomatch z
  nf := fun _ _ z => nomatch z
  nx := fun _ z => nomatch z
theorem lk_of {o o' : Ob} (e : lkO o = some o') (q : RepO K mg r H o ad) : ∃ u, H ad = some u ∧ Lk K mg o o' u := by
  cases o with
  | dic kvs => cases e; obtain ⟨vs, q, t⟩ := q; exact ⟨_, q, lk_dic t q⟩
  | dit kvs => cases e; obtain ⟨vs, q, t⟩ := q; exact ⟨_, q, lk_dit t q⟩
  | _ => cases e
theorem RepO.unl {o : Ob} {a b : Addr} {od : Obj} {u : HO} (hu : H a = Option.some (.frz od u)) (nt : ∀ xs, u ≠ .tup xs) (hl : ∀ xs, u ≠ .lst xs) (hb : uq o = true → b ≠ a) (q : RepO K mg r H o b) : RepO K mg r (upd H a u) o b := by
  cases o with
  | lst xs => obtain ⟨vs, q, t⟩ := q; exact ⟨vs, by rw [upd_ne (hb rfl)]; exact q, t.unl hu nt⟩
  | dic kvs => obtain ⟨vs, q, t⟩ := q; exact ⟨vs, by rw [upd_ne (hb rfl)]; exact q, t.unl hu nt⟩
  | rdl xs =>
    obtain ⟨vs, q, t⟩ := q
    refine ⟨vs, ?_, t.unl hu nt⟩
    rcases q with ⟨ob, q⟩ | q
    · exact .inl ⟨ob, by rw [upd_ne (ne_of q hu (fun z => by injection z with z1 z2; exact hl _ z2.symm))]; exact q⟩
    · exact .inr q
  | ins c fs => obtain ⟨C, dx, vs, q1, q, t⟩ := q; exact ⟨C, dx, vs, q1, by rw [upd_ne (hb rfl)]; exact q, t.unl hu nt⟩
  | dit kvs => obtain ⟨vs, q, t⟩ := q; exact ⟨vs, by rw [upd_ne (hb rfl)]; exact q, t.unl hu nt⟩
  | rdd kvs => obtain ⟨od, vs, q, t⟩ := q; exact ⟨od, vs, by rw [upd_ne (hb rfl)]; exact q, t.unl hu nt⟩
  | rdt kvs => obtain ⟨od, vs, q, t⟩ := q; exact ⟨od, vs, by rw [upd_ne (hb rfl)]; exact q, t.unl hu nt⟩
theorem Lk.nl {o o' : Ob} {u : HO} (L : Lk K mg o o' u) (q : RepO K mg r H o ad) (hu : H ad = some u) (e : lkO o = some o') : ∀ xs, u ≠ .lst xs := by
  intro xs z
  subst z
  cases o with
  | dic kvs => obtain ⟨vs, q, t⟩ := q; rw [hu] at q; cases q
  | dit kvs => obtain ⟨vs, q, t⟩ := q; rw [hu] at q; cases q
  | _ => cases e
theorem Rep.lock {o o' : Ob} {u : HO} {od : Obj} (R : Rep K mg r h H) (eh : h[n]? = some o) (ea : r[n]? = some ad) (hu : H ad = some u) (L : Lk K mg o o' u) : Rep K mg r (h.set n o') (upd H ad (.frz od u)) ∧ Keep H (upd H ad (.frz od u)) := by
  have k : Keep H (upd H ad (.frz od u)) := Keep.mut hu L.nt L.nf L.nx
  refine ⟨⟨by simp [R.len], fun j o2 b e1 e2 => ?_, fun j l b oj ol e1 e2 m1 m2 e3 e4 => ?_⟩, k⟩
  · rcases get_set e1 with ⟨e1, e5⟩ | ⟨ne, e1⟩
    · subst e1 e5
      rw [ea] at e2; cases e2
      exact L.lock r H ad od hu (R.obs _ _ _ eh ea)
    · refine (R.obs j o2 b e1 e2).mono (Ext.refl r) k fun m2 => ?_
      rw [upd_ne (fun z => by subst z; exact ne (R.inj n j b o o2 eh e1 L.uq1 (mu_uq m2) ea e2))]
  · have f : ∀ {j : Nat} {oj : Ob}, (h.set n o')[j]? = some oj → uq oj = true → ∃ o2, h[j]? = some o2 ∧ uq o2 = true := fun {j oj} e1 m1 => by
      rcases get_set e1 with ⟨e1, _⟩ | ⟨_, e1⟩
      · subst e1; exact ⟨o, eh, L.uq1⟩
      · exact ⟨oj, e1, m1⟩
    obtain ⟨a1, b1, c1⟩ := f e1 m1
    obtain ⟨a2, b2, c2⟩ := f e2 m2
    exact R.inj j l b a1 a2 b1 b2 c1 c2 e3 e4
theorem Rep.unlock {o o' : Ob} {u : HO} {od : Obj} {r0 : List Addr} {H0 : Hp} {h0 : HP} (R0 : Rep K mg r0 h0 H0) (e0 : h0[n]? = some o') (ea0 : r0[n]? = some ad) (hu0 : H0 ad = some (.frz od u)) (L : Lk K mg o o' u) (hl : ∀ xs, u ≠ .lst xs)
    (x : Ext r0 r) (k : Keep H0 H) (R : Rep K mg r h H) (eh : h[n]? = some o') : Rep K mg r (h.set n o) (upd H ad u) := by
  have ea := x.get ea0
  have hu : H ad = some (.frz od u) := k.frz _ _ _ hu0
  refine ⟨by simp [R.len], fun j o2 b e1 e2 => ?_, fun j l b oj ol e1 e2 m1 m2 e3 e4 => ?_⟩
  · rcases get_set e1 with ⟨e1, e5⟩ | ⟨ne, e1⟩
    · subst e1 e5
      rw [ea] at e2; cases e2
      exact L.back r0 H0 r H ad od x k hu0 (R0.obs _ _ _ e0 ea0) hu
    · exact (R.obs j o2 b e1 e2).unl hu L.nt hl fun m2 z => by subst z; exact ne (R.inj n j b o' o2 eh e1 L.uq2 m2 ea e2)
  · have f : ∀ {j : Nat} {oj : Ob}, (h.set n o)[j]? = some oj → uq oj = true → ∃ o2, h[j]? = some o2 ∧ uq o2 = true := fun {j oj} e1 m1 => by
      rcases get_set e1 with ⟨e1, _⟩ | ⟨_, e1⟩
      · subst e1; exact ⟨o', eh, L.uq2⟩
      · exact ⟨oj, e1, m1⟩
    obtain ⟨a1, b1, c1⟩ := f e1 m1
    obtain ⟨a2, b2, c2⟩ := f e2 m2
    exact R.inj j l b a1 a2 b1 b2 c1 c2 e3 e4
theorem Keep.unl {H0 : Hp} {u : HO} {od : Obj} {a : Addr} (hu : H0 a = some u) (nt : ∀ xs, u ≠ .tup xs) (nf : ∀ ob v, u ≠ .frz ob v) (nx : ∀ fs, u ≠ .xd fs) (k : Keep (upd H0 a (.frz od u)) H) : Keep H0 (upd H a u) := by
  have g : ∀ b o, H0 b = some o → b ≠ a → (upd H0 a (.frz od u)) b = some o := fun b o e ne => by rw [upd_ne ne]; exact e
  refine ⟨fun b xs e => ?_, fun b ob v e => ?_, fun b fs e => ?_⟩
  · have ne : b ≠ a := fun z => by subst z; rw [hu] at e; exact nt _ (Option.some.inj e)
    rw [upd_ne ne]; exact k.tup b xs (g b _ e ne)
  · have ne : b ≠ a := fun z => by subst z; rw [hu] at e; exact nf _ _ (Option.some.inj e)
    rw [upd_ne ne]; exact k.frz b ob v (g b _ e ne)
  · have ne : b ≠ a := fun z => by subst z; rw [hu] at e; exact nx _ (Option.some.inj e)
    rw [upd_ne ne]; exact k.xd b fs (g b _ e ne)
theorem RelSt.unl {s : SD} {σ : L2.St} {od : Obj} {u : HO} {a : Addr} (hu : H a = some (.frz od u)) (nt : ∀ xs, u ≠ .tup xs) (q : RelSt K mg r H s σ) : RelSt K mg r (upd H a u) s σ :=
  ⟨q.len, fun i d e => let ⟨v, e1, e2⟩ := q.at' i d e; ⟨v, e1, e2.unl hu nt⟩⟩
open Classical in
noncomputable def unlR (n : Nat) (o' o : Ob) (x : R D) : R D := match x with
  | .ok d h => if h[n]? = some o' then .ok d (h.set n o) else .bad
  | _ => .bad
open Classical in
noncomputable def unlS (n : Nat) (o' o : Ob) (x : RS) : RS := match x with
  | .nx s h => if h[n]? = some o' then .nx s (h.set n o) else .bad
  | .rt d h => if h[n]? = some o' then .rt d (h.set n o) else .bad
  | .bk s h => if h[n]? = some o' then .bk s (h.set n o) else .bad
  | .ct s h => if h[n]? = some o' then .ct s (h.set n o) else .bad
  | _ => .bad
/-- an expression while the dict in slot i is locked -/
noncomputable def mLockE (i : Nat) (a : ME) : ME := fun s h => match s[i]? with
  | some (some (.ref n)) => match (h[n]?).bind fun o => (lkO o).map fun o' => (o, o') with
    | some (o, o') => unlR n o' o (a s (h.set n o'))
    | none => .bad
  | _ => .bad
noncomputable def mLockS (i : Nat) (a : MS) : MS := fun s h => match s[i]? with
  | some (some (.ref n)) => match (h[n]?).bind fun o => (lkO o).map fun o' => (o, o') with
    | some (o, o') => unlS n o' o (a s (h.set n o'))
    | none => .bad
  | _ => .bad
theorem lk_in {o o' : Ob} (e : ((h[n]?).bind fun o => (lkO o).map fun o' => (o, o')) = some (o, o')) : h[n]? = some o ∧ lkO o = some o' := by
  obtain ⟨x, e1, e2⟩ := Option.bind_eq_some_iff.mp e
  obtain ⟨y, e3, e4⟩ := Option.map_eq_some_iff.mp e2
  cases e4
  exact ⟨e1, e3⟩
theorem set_at {h : HP} {n : Nat} {o o' : Ob} (e : h[n]? = some o) : (h.set n o')[n]? = some o' := by
  have hn : n < h.length := (List.getElem?_eq_some_iff.mp e).1
  rw [List.getElem?_set_self hn]
theorem qe_lock {i : Nat} {m : ME} (he : QE X W0 e m) : QE X W e (mLockE i m) := (pe_lock he).imp fun σ H Q ⟨r, s, h, rp, rs, p⟩ => by
  unfold mLockE at p
  split at p
  · rename_i n hs
    split at p
    · rename_i o o' ho
      obtain ⟨eh, el⟩ := lk_in ho
      obtain ⟨v, hv, rv⟩ := rs.at' _ _ hs
      cases rv with
      | @ref _ ad ea =>
        have q0 := rp.obs _ _ ad eh ea
        obtain ⟨u, hu, L⟩ := lk_of el q0
        have hl := L.nl q0 hu el
        refine ⟨ad, u, hu, L.mt, fun od => ?_⟩
        obtain ⟨rp1, k1⟩ := rp.lock (od := od) eh ea hu L
        refine ⟨r, s, h.set n o', rp1, rs.mono (Ext.refl _) k1, ?_⟩
        cases z : m s (h.set n o') with
        | ok d h2 =>
          rw [z] at p
          unfold unlR at p
          dsimp only at p
          intro r2 b H2 x2 k2 rp2 rl2
          by_cases hz : h2[n]? = some o'
          · rw [if_pos hz] at p
            have hu2 : H2 ad = some (.frz od u) := k2.frz _ _ _ upd_same
            have rp3 := rp1.unlock (set_at eh) ea upd_same L hl x2 k2 rp2 hz
            exact ⟨hu2, p r2 b _ x2 (Keep.unl hu L.nt L.nf L.nx k2) rp3 (RelD.unl hu2 L.nt rl2)⟩
          · rw [if_neg hz] at p; exact p.elim
        | exc c fs h2 => rw [z] at p; exact p.elim
        | bad => rw [z] at p; exact p.elim
    · exact p.elim
  · exact p.elim
theorem qs_lock {i : Nat} {st : Stmt} {m : MS} (he : QS X W0 st m) : QS X W st (mLockS i m) := (ps_lock he).imp fun D0 σ H ⟨r, s, h, rp, rs, p⟩ => by
  unfold mLockS at p
  split at p
  · rename_i n hs
    split at p
    · rename_i o o' ho
      obtain ⟨eh, el⟩ := lk_in ho
      obtain ⟨v, hv, rv⟩ := rs.at' _ _ hs
      cases rv with
      | @ref _ ad ea =>
        have q0 := rp.obs _ _ ad eh ea
        obtain ⟨u, hu, L⟩ := lk_of el q0
        have hl := L.nl q0 hu el
        refine ⟨ad, u, hu, L.mt, fun od => ?_⟩
        obtain ⟨rp1, k1⟩ := rp.lock (od := od) eh ea hu L
        refine ⟨r, s, h.set n o', rp1, rs.mono (Ext.refl _) k1, ?_⟩
        have go : ∀ {r2 : List Addr} {H2 : Hp} {h2 : HP}, Ext r r2 → Keep (upd H ad (.frz od u)) H2 → Rep X.K X.mg r2 h2 H2 → h2[n]? = some o' → H2 ad = some (.frz od u) ∧ Rep X.K X.mg r2 (h2.set n o) (upd H2 ad u) ∧ Keep H (upd H2 ad u) := fun {r2 H2 h2} x2 k2 rp2 hz =>
          ⟨k2.frz _ _ _ upd_same, rp1.unlock (set_at eh) ea upd_same L hl x2 k2 rp2 hz, Keep.unl hu L.nt L.nf L.nx k2⟩
        cases z : m s (h.set n o') with
        | nx s2 h2 =>
          rw [z] at p
          unfold unlS at p
          dsimp only at p
          intro r2 σ2 H2 x2 k2 rp2 rs2
          by_cases hz : h2[n]? = some o'
          · rw [if_pos hz] at p
            obtain ⟨g1, g2, g3⟩ := go x2 k2 rp2 hz
            exact ⟨g1, p r2 σ2 _ x2 g3 g2 (rs2.unl g1 L.nt)⟩
          · rw [if_neg hz] at p; exact p.elim
        | bk s2 h2 =>
          rw [z] at p
          unfold unlS at p
          dsimp only at p
          intro r2 σ2 H2 x2 k2 rp2 rs2
          by_cases hz : h2[n]? = some o'
          · rw [if_pos hz] at p
            obtain ⟨g1, g2, g3⟩ := go x2 k2 rp2 hz
            exact ⟨g1, p r2 σ2 _ x2 g3 g2 (rs2.unl g1 L.nt)⟩
          · rw [if_neg hz] at p; exact p.elim
        | ct s2 h2 =>
          rw [z] at p
          unfold unlS at p
          dsimp only at p
          intro r2 σ2 H2 x2 k2 rp2 rs2
          by_cases hz : h2[n]? = some o'
          · rw [if_pos hz] at p
            obtain ⟨g1, g2, g3⟩ := go x2 k2 rp2 hz
            exact ⟨g1, p r2 σ2 _ x2 g3 g2 (rs2.unl g1 L.nt)⟩
          · rw [if_neg hz] at p; exact p.elim
        | rt d h2 =>
          rw [z] at p
          unfold unlS at p
          dsimp only at p
          intro r2 v2 H2 x2 k2 rp2 rl2
          by_cases hz : h2[n]? = some o'
          · rw [if_pos hz] at p
            obtain ⟨g1, g2, g3⟩ := go x2 k2 rp2 hz
            exact ⟨g1, p r2 v2 _ x2 g3 g2 (rl2.unl g1 L.nt)⟩
          · rw [if_neg hz] at p; exact p.elim
        | exc s2 c fs h2 => rw [z] at p; exact p.elim
        | bad => rw [z] at p; exact p.elim
    · exact p.elim
  · exact p.elim
end
end PM
end
section
set_option Elab.async false
set_option linter.all false
set_option maxRecDepth 100000
set_option maxHeartbeats 1000000
namespace PM
open PySem PySem.Spec PyProof.Rows L2

/-! ### the names that a comprehension binds: one, or a tuple of them -/
inductive Tg where
  | one (i : Nat) | many (is : List Nat)
def Tg.slots : Tg → List Nat
  | .one i => [i]
  | .many is => is
def setAll : SD → List Nat → List D → SD
  | s, i :: is, d :: ds => setAll (s.set i (some d)) is ds
  | s, _, _ => s
def Tg.put (t : Tg) (d : D) (s : SD) : Option SD := match t with
  | .one i => some (s.set i (some d))
  | .many is => match d with
    | .tup ds => if ds.length = is.length then some (setAll s is ds) else none
    | .stp ds => if ds.length = is.length then some (setAll s is ds) else none
    | _ => none
def tgsOf : List Nat → TGs
  | [] => L2.gNil
  | i :: is => L2.gCons (gName i) (tgsOf is)
def Tg.tg (K : PySem.W.Frag) : Tg → TG
  | .one i => gName i
  | .many is => L2.gTup K is.length (tgsOf is)
def wipeD (s : SD) : List Nat → SD
  | [] => s
  | v :: vs => (wipeD s vs).set v none
section
variable {X : Cx} {K : PySem.W.Frag} {mg : Str → Option Value} {r : List Addr} {H : Hp} {h : HP} {W : WX} {a b c e o elt kx vx : Expr} {es rest : List Expr} {ma mb mc mk mv : ME} {t : MA} {pos pos' apos cpos : Pos}
theorem relSt_wipe {s : SD} {σ : L2.St} (q : RelSt K mg r H s σ) : ∀ vs : List Nat, RelSt K mg r H (wipeD s vs) (wipe σ vs)
  | [] => q
  | v :: vs => (relSt_wipe q vs).unset v
theorem wipe_in {σ : L2.St} {k : Nat} : ∀ {vs : List Nat}, k ∈ vs → (wipe σ vs)[k]? = if k < σ.length then some none else none
  | v :: vs, hk => by
    unfold wipe
    by_cases e : v = k
    · subst e
      by_cases hl : v < σ.length
      · rw [List.getElem?_set_self (by rw [wipe_length]; exact hl), if_pos hl]
      · rw [if_neg hl, List.getElem?_eq_none (by rw [List.length_set, wipe_length]; omega)]
    · rw [List.getElem?_set_ne e]
      exact wipe_in ((List.mem_cons.mp hk).resolve_left fun z => e z.symm)
theorem wipe_set {σ : L2.St} {i : Nat} {x : Option V} {vs : List Nat} (hi : i ∈ vs) : wipe (σ.set i x) vs = wipe σ vs := by
  apply List.ext_getElem?
  intro k
  by_cases hk : k ∈ vs
  · rw [wipe_in hk, wipe_in hk, List.length_set]
  · rw [wipe_out hk, wipe_out hk, List.getElem?_set_ne (fun z => hk (by rw [← z]; exact hi))]
theorem wipe_wipe {σ : L2.St} {vs : List Nat} : wipe (wipe σ vs) vs = wipe σ vs := by
  apply List.ext_getElem?
  intro k
  by_cases hk : k ∈ vs
  · rw [wipe_in hk, wipe_in hk, wipe_length]
  · rw [wipe_out hk]
theorem tgs_ok {σ0 : L2.St} {vs : List Nat} {Q : L2.St → Hp → Prop} : ∀ {is : List Nat} {ds : List D} {us : List V} {s : SD} {σ : L2.St}, (∀ i ∈ is, i ∈ vs) → ds.length = is.length → RelSt K mg r H s σ → RelDs K mg r H ds us → wipe σ vs = wipe σ0 vs →
    (∀ σ', RelSt K mg r H (setAll s is ds) σ' → wipe σ' vs = wipe σ0 vs → Q σ' H) → tgsOf is us σ H Q
  | [], [], _, s, σ, _, _, rs, .nil, hw, q => ⟨rfl, q σ rs hw⟩
  | i :: is, d :: ds, _, s, σ, hi, hl, rs, .cons rd rt, hw, q => ⟨_, _, rfl, tgs_ok (fun j hj => hi j (List.mem_cons_of_mem _ hj)) (by simpa using hl) (rs.set i rd) rt (by rw [wipe_set (hi i List.mem_cons_self)]; exact hw) q⟩
  | [], _ :: _, _, _, _, _, hl, _, _, _, _ => by cases hl
  | _ :: _, [], _, _, _, _, hl, _, _, _, _ => by cases hl
theorem tg_ok {t : Tg} {s s' : SD} {σ : L2.St} {d : D} {v : V} {Q : L2.St → Hp → Prop} (rs : RelSt K mg r H s σ) (rd : RelD K mg r H d v) (e : t.put d s = some s')
    (q : ∀ σ', RelSt K mg r H s' σ' → wipe σ' t.slots = wipe σ t.slots → Q σ' H) : t.tg K v σ H Q := by
  cases t with
  | one i =>
    cases e
    exact q _ (rs.set i rd) (wipe_set List.mem_cons_self)
  | many is =>
    unfold Tg.put at e
    cases rd with
    | @tup ds ad us sq rls =>
      dsimp only at e
      by_cases hz : ds.length = is.length
      · rw [if_pos hz] at e
        cases e
        exact ⟨ad, us, rfl, SqT.of sq, by rw [← rls.length]; exact hz, tgs_ok (fun _ h => h) hz rs rls rfl q⟩
      · rw [if_neg hz] at e; cases e
    | @stp ds ad us sq rls =>
      dsimp only at e
      by_cases hz : ds.length = is.length
      · rw [if_pos hz] at e
        cases e
        exact ⟨ad, us, rfl, sq.sq, by rw [← rls.length]; exact hz, tgs_ok (fun _ h => h) hz rs rls rfl q⟩
      · rw [if_neg hz] at e; cases e
    | _ => cases e

/-! ### the turns -/
open Classical in
noncomputable def cLoop {α : Type} (G : HP → Prop) (t : Tg) (c : MT) (el : SD → HP → R α) (put : α → HP → Option HP) (n : Nat) : List D → SD → HP → R D
  | [], _, h => if G h then .ok (.ref n) h else .bad
  | d :: ds, s, h => if G h then (match t.put d s with
    | some s1 => (match c s1 h with
      | .ok true h => (match el s1 h with
        | .ok y h => (match put y h with
          | some h => cLoop G t c el put n ds s h
          | none => .bad)
        | _ => .bad)
      | .ok false h => cLoop G t c el put n ds s h
      | _ => .bad)
    | none => .bad) else .bad
def putL (n : Nat) (y : D) (h : HP) : Option HP := match h[n]? with
  | some (.lst acc) => if acc.length < 1000000 then some (h.set n (.lst (acc ++ [y]))) else none
  | _ => none
noncomputable def mLcG (it : MI) (t : Tg) (c : MT) (el : ME) : ME := fun s h => (it s h).bind fun x h => cLoop x.2 t c el (putL h.length) h.length x.1 (wipeD s t.slots) (h ++ [.lst []])
def mPair (mk mv : ME) : SD → HP → R (D × D) := fun s h => (mk s h).bind fun k h => (mv s h).bind fun v h => .ok (k, v) h
noncomputable def mDc (o0 : Ob) (it : MI) (t : Tg) (c : MT) (mk mv : ME) : ME := fun s h => (it s h).bind fun x h => cLoop x.2 t c (mPair mk mv) (fun p h' => putD h.length p.1 p.2 h') h.length x.1 (wipeD s t.slots) (h ++ [o0])
/-- the turns of a comprehension, whatever it makes -/
theorem c_sem {α β : Type} {rr : RR α β} {J : It} {ds : List D} {G : HP → Prop} {t : Tg} {m : MT} {el : SD → HP → R α} {put : α → HP → Option HP} {ob : Ob} {u0 : HO} {s : SD} {σ : L2.St} {Q : VK} {h' : HP} {r0 : List Addr} {H0 : Hp} {Dl : Addr}
    {st : β → Hp → Hp → Prop}
    (hst : ∀ {r : List Addr} {h h1 : HP} {H : Hp} {y : α} {w : β}, Rep K mg r h H → r[h'.length]? = some Dl → rr.rel K mg r H y w → put y h = some h1 → ∃ H1, st w H H1 ∧ Keep H H1 ∧ Rep K mg r h1 H1)
    (rp0 : Rep K mg r0 h' H0) (rs : RelSt K mg r0 H0 s σ) (j : JRel K mg r0 H0 J ds G) (hn : H0 Dl = none) (rp1 : Rep K mg (r0 ++ [Dl]) (h' ++ [ob]) (upd H0 Dl u0))
    (p : Post K mg rD W r0 σ H0 Q (cLoop G t m el put h'.length ds (wipeD s t.slots) (h' ++ [ob]))) :
    ∃ W' : Nat → Nat → Hp → Prop, (∃ m, W' 0 m (upd H0 Dl u0)) ∧ ∀ i md H, W' i md H →
      (J.stop i H ∧ Q (.ref Dl) H) ∨ (J.go i H ∧ ∃ Nx : Hp → Prop, (∀ H', Nx H' → ∃ m', m' < md ∧ W' (i + 1) m' H') ∧ ∀ x H', J.yld i H x H' → t.tg K x (wipe σ t.slots) H' fun σ2 H2 => wipe σ2 t.slots = wipe σ t.slots ∧ tM K mg rB W0 m σ2 H2 fun b H3 =>
        if b = true then tM K mg rr W0 el σ2 H3 fun y H4 => ∃ H5, st y H4 H5 ∧ Nx H5 else Nx H3) := by
  have kn : Keep H0 (upd H0 Dl u0) := Keep.new hn
  have ea : (r0 ++ [Dl])[h'.length]? = some Dl := by rw [List.getElem?_append_right (by rw [rp0.len]; exact Nat.le_refl _), rp0.len]; simp
  have rs0 : RelSt K mg (r0 ++ [Dl]) (upd H0 Dl u0) (wipeD s t.slots) (wipe σ t.slots) := relSt_wipe (rs.mono (Ext.one r0 Dl) kn) _
  refine ⟨fun n md H => md = ds.length - n ∧ ∃ r h, Ext (r0 ++ [Dl]) r ∧ Keep (upd H0 Dl u0) H ∧ Rep K mg r h H ∧ RelSt K mg r H (wipeD s t.slots) (wipe σ t.slots) ∧ Post K mg rD W r σ H Q (cLoop G t m el put h'.length (ds.drop n) (wipeD s t.slots) h), ⟨ds.length, by simp, r0 ++ [Dl], h' ++ [ob], Ext.refl _, Keep.refl _, rp1, rs0, by simpa using Post.mono p (Ext.one r0 Dl) kn⟩, ?_⟩
  rintro n md H1 ⟨rfl, r1, h1, e1, k1, rp1, rs1, p1⟩
  rcases Nat.lt_or_ge n ds.length with hlt | hge
  · rw [List.drop_eq_getElem_cons hlt] at p1
    unfold cLoop at p1
    by_cases hG : G h1
    · rw [if_pos hG] at p1
      obtain ⟨j1, _⟩ := j n r1 H1 h1 ((Ext.one r0 Dl).trans e1) (kn.trans k1) rp1 hG
      obtain ⟨go, yl⟩ := j1 _ (List.getElem?_eq_getElem hlt)
      refine .inr ⟨go, fun H' => ∃ r h, Ext (r0 ++ [Dl]) r ∧ Keep (upd H0 Dl u0) H' ∧ Rep K mg r h H' ∧ RelSt K mg r H' (wipeD s t.slots) (wipe σ t.slots) ∧ Post K mg rD W r σ H' Q (cLoop G t m el put h'.length (ds.drop (n + 1)) (wipeD s t.slots) h), fun H' q => ⟨ds.length - (n + 1), by omega, rfl, q⟩, fun v H2 y2 => ?_⟩
      obtain ⟨k2, rp2, rl2⟩ := yl v H2 y2
      have rs2 := rs1.mono (Ext.refl _) k2
      have p2 := Post.mono p1 (Ext.refl _) k2
      cases zp : t.put ds[n] (wipeD s t.slots) with
      | none => rw [zp] at p2; exact p2.elim
      | some s1 =>
        rw [zp] at p2
        dsimp only at p2
        refine tg_ok rs2 rl2 zp fun σ3 rs3 hw3 => ⟨by rw [hw3, wipe_wipe], ?_⟩
        refine ⟨r1, s1, h1, rp2, rs3, ?_⟩
        cases zc : m s1 h1 with
        | exc c fs h3 => rw [zc] at p2; exact p2.elim
        | bad => rw [zc] at p2; exact p2.elim
        | ok bb h3 =>
          rw [zc] at p2
          intro r3 bb' H3 e3 k3 rp3 rlb
          obtain rfl : bb = bb' := rlb
          have p3 := Post.mono p2 e3 k3
          cases bb with
          | false => exact ⟨r3, h3, e1.trans e3, (k1.trans k2).trans k3, rp3, rs2.mono e3 k3, p3⟩
          | true =>
            refine ⟨r3, s1, h3, rp3, rs3.mono e3 k3, ?_⟩
            dsimp only at p3
            cases ze : el s1 h3 with
            | exc c fs h4 => rw [ze] at p3; exact p3.elim
            | bad => rw [ze] at p3; exact p3.elim
            | ok y h4 =>
              rw [ze] at p3
              intro r4 w H4 e4 k4 rp4 rly
              have p4 := Post.mono p3 e4 k4
              dsimp only at p4
              cases zq : put y h4 with
              | none => rw [zq] at p4; exact p4.elim
              | some h5 =>
                rw [zq] at p4
                obtain ⟨H5, g1, g2, g3⟩ := hst rp4 (e4.get (e3.get (e1.get ea))) rly zq
                exact ⟨H5, g1, r4, h5, (e1.trans e3).trans e4, (((k1.trans k2).trans k3).trans k4).trans g2, g3, ((rs2.mono e3 k3).mono e4 k4).mono (Ext.refl _) g2, Post.mono p4 (Ext.refl _) g2⟩
    · rw [if_neg hG] at p1; exact p1.elim
  · rw [List.drop_eq_nil_of_le hge] at p1
    unfold cLoop at p1
    by_cases hG : G h1
    · rw [if_pos hG] at p1
      exact .inl ⟨(j n r1 H1 h1 ((Ext.one r0 Dl).trans e1) (kn.trans k1) rp1 hG).2 hge, p1 r1 _ H1 (Ext.refl _) (Keep.refl _) rp1 (.ref (e1.get ea))⟩
    · rw [if_neg hG] at p1; exact p1.elim
theorem putL_ok {n : Nat} {r : List Addr} {h h1 : HP} {H : Hp} {y : D} {w : V} {Dl : Addr} (rp : Rep K mg r h H) (ea : r[n]? = some Dl) (ry : RelD K mg r H y w) (e : putL n y h = some h1) :
    ∃ H1, (∃ acc, H Dl = some (.lst acc) ∧ acc.length < sizeLine ∧ H1 = upd H Dl (.lst (acc ++ [w]))) ∧ Keep H H1 ∧ Rep K mg r h1 H1 := by
  unfold putL at e
  split at e
  · rename_i acc hacc
    by_cases hz : acc.length < 1000000
    · rw [if_pos hz] at e
      cases e
      obtain ⟨vs, qv, rlv⟩ := rp.obs _ _ Dl hacc ea
      have st := rp.set (u := .lst (vs ++ [w])) (o' := .lst (acc ++ [y])) hacc rfl rfl ea fun kp => ⟨_, upd_same, (rlv.mono (Ext.refl _) kp).append (.cons (RelD.mono (Ext.refl _) kp ry) .nil)⟩
      exact ⟨_, ⟨vs, qv, line_lt (by rw [← rlv.length]; exact hz), rfl⟩, st.2, st.1⟩
    · rw [if_neg hz] at e; cases e
  · cases e
/-- the list comprehension's reading -/
theorem lc_sem {mi : MI} {t : Tg} {m : MT} {σ : L2.St} {Q : VK} (q : tM K mg rD W (mLcG mi t m ma) σ H Q) : tLc (rIt K mg W mi) (t.tg K) (tM K mg rB W0 m) (tM K mg rD W0 ma) t.slots σ H Q := by
  obtain ⟨r, s, h, rp, rs, p⟩ := q
  refine ⟨r, s, h, rp, rs, ?_⟩
  unfold mLcG at p
  cases z : mi s h with
  | exc c fs h' => rw [z] at p; exact p
  | bad => rw [z] at p; exact p.elim
  | ok y h' =>
    rw [z] at p
    obtain ⟨ds, G⟩ := y
    have p : Post K mg rD W r σ H Q (cLoop G t m ma (putL h'.length) h'.length ds (wipeD s t.slots) (h' ++ [.lst []])) := p
    intro r0 H0 J e0 k0 rp0 j Dl hn
    obtain ⟨W', w0, tn⟩ := c_sem (rr := rD) (st := fun w H H1 => ∃ acc, H Dl = some (.lst acc) ∧ acc.length < sizeLine ∧ H1 = upd H Dl (.lst (acc ++ [w]))) (u0 := .lst []) (fun rp ea ry e => putL_ok rp ea ry e) rp0 (rs.mono e0 k0) j hn (rp0.new (o := .lst []) hn ⟨[], upd_same, .nil⟩) (Post.mono p e0 k0)
    refine ⟨W', w0, fun i md H1 w1 => ?_⟩
    rcases tn i md H1 w1 with q | ⟨go, Nx, n1, n2⟩
    · exact .inl q
    · refine .inr ⟨go, Nx, n1, fun x H' y => ?_⟩
      have g := n2 x H' y
      have cv : ∀ {σ2 : L2.St} {H2 : Hp}, (wipe σ2 t.slots = wipe σ t.slots ∧ tM K mg rB W0 m σ2 H2 fun b H3 => if b = true then tM K mg rD W0 ma σ2 H3 fun y H4 => ∃ H5, (∃ acc, H4 Dl = some (.lst acc) ∧ acc.length < sizeLine ∧ H5 = upd H4 Dl (.lst (acc ++ [y]))) ∧ Nx H5 else Nx H3) →
          wipe σ2 t.slots = wipe σ t.slots ∧ tM K mg rB W0 m σ2 H2 fun b H3 => if b = true then tM K mg rD W0 ma σ2 H3 fun y H4 => ∃ acc, H4 Dl = some (.lst acc) ∧ acc.length < sizeLine ∧ Nx (upd H4 Dl (.lst (acc ++ [y]))) else Nx H3 := fun ⟨z1, r, s, h, z2, z3, z4⟩ => ⟨z1, r, s, h, z2, z3, z4.imp fun b H3 z5 => by
        cases b with
        | false => exact z5
        | true =>
          obtain ⟨r, s, h, y1, y2, y3⟩ := z5
          exact ⟨r, s, h, y1, y2, y3.imp fun w H4 ⟨H5, ⟨acc, g1, g2, g3⟩, g4⟩ => ⟨acc, g1, g2, by rw [← g3]; exact g4⟩⟩⟩
      have mono : ∀ {Q1 Q2 : L2.St → Hp → Prop} {x : V} {σ1 : L2.St} {H1 : Hp}, (∀ σ H, Q1 σ H → Q2 σ H) → t.tg K x σ1 H1 Q1 → t.tg K x σ1 H1 Q2 := by
        intro Q1 Q2 x σ1 H1 hq g
        cases t with
        | one i => exact hq _ _ g
        | many is =>
          obtain ⟨a, xs, g1, g2, g3, g4⟩ := g
          refine ⟨a, xs, g1, g2, g3, ?_⟩
          clear g3 cv n2
          have go2 : ∀ (is : List Nat) (xs : List V) (σ1 : L2.St), tgsOf is xs σ1 H1 Q1 → tgsOf is xs σ1 H1 Q2 := by
            intro is
            induction is with
            | nil => intro xs σ1 ⟨z1, z2⟩; exact ⟨z1, hq _ _ z2⟩
            | cons i is ih => intro xs σ1 ⟨v, rr, z1, z2⟩; exact ⟨v, rr, z1, ih _ _ z2⟩
          exact go2 is xs σ1 g4
      exact mono (fun _ _ => cv) g
theorem qe_lcG {tg iter : Expr} {ifs : List Expr} {scope : Scope} {own : List (Str × Nat)} {mi : MI} {m : MT} (t : Tg) (hc : X.calm = true) (hN : X.N.Nodup) (hi : QI X W tg iter mi) (ok : BlkOk X.N X.env.scope scope own) (ho : own.map (·.2) = t.slots)
    (hg : ∀ (s : Shared) (H : Hp) (C : Addr) (cl : List (Str × Addr)) (fp : List Addr), PG (X.blk s H scope (compEnvC scope cl C X.env) fp) tg (t.tg X.K)) (ht : ∀ (s : Shared) (H : Hp) (C : Addr) (cl : List (Str × Addr)) (fp : List Addr), QTs (X.blk s H scope (compEnvC scope cl C X.env) fp) ifs m)
    (he : ∀ (s : Shared) (H : Hp) (C : Addr) (cl : List (Str × Addr)) (fp : List Addr), QE (X.blk s H scope (compEnvC scope cl C X.env) fp) W0 elt ma) (hs : ∀ x, foldedSetIterable iter X.env x = pure x := by intro _; rfl) :
    QE X W (.ListComp elt [⟨tg, iter, ifs, 0⟩] scope pos) (mLcG mi t m ma) := (pe_lc (own := own) (tt := tM X.K X.mg rB W0 m) (te := tM X.K X.mg rD W0 ma) hc hN hi ok hg ht he hs).imp fun σ H Q q => by
  rw [ho]; exact lc_sem q
theorem qs_setLcG {i : Nat} {y : Str} {py spos : Pos} {tg iter : Expr} {ifs : List Expr} {scope : Scope} {own : List (Str × Nat)} {mi : MI} {m : MT} (t : Tg) (hc : X.calm = true) (hN : X.N.Nodup) (hy : X.N[i]? = some y) (hyl : X.env.scope.names.lookup y = some .local)
    (hsw : swapsWith (.ListComp elt [⟨tg, iter, ifs, 0⟩] scope pos) (some (.Name y py)) spos.line X.env = pure true) (hi : QI X W tg iter mi) (ok : BlkOk X.N X.env.scope scope own) (ho : own.map (·.2) = t.slots)
    (hg : ∀ (s : Shared) (H : Hp) (C : Addr) (cl : List (Str × Addr)) (fp : List Addr), PG (X.blk s H scope (compEnvC scope cl C X.env) fp) tg (t.tg X.K)) (ht : ∀ (s : Shared) (H : Hp) (C : Addr) (cl : List (Str × Addr)) (fp : List Addr), QTs (X.blk s H scope (compEnvC scope cl C X.env) fp) ifs m)
    (he : ∀ (s : Shared) (H : Hp) (C : Addr) (cl : List (Str × Addr)) (fp : List Addr), QE (X.blk s H scope (compEnvC scope cl C X.env) fp) W0 elt ma) (hs : ∀ x, foldedSetIterable iter X.env x = pure x := by intro _; rfl) :
    QS X W (.Assign [.Name y py] (.ListComp elt [⟨tg, iter, ifs, 0⟩] scope pos) spos) (mSet i (mLcG mi t m ma)) := (ps_setLc (own := own) (tt := tM X.K X.mg rB W0 m) (te := tM X.K X.mg rD W0 ma) hc hN hy hyl hsw hi ok hg ht he hs).imp fun D0 σ H q => by
  rw [ho]
  refine lc_sem (Q := fun v H1 => gName i v σ H1 D0.nx) ?_
  obtain ⟨r, s, h, rp, rs, p⟩ := tS.ofE (rr := rD) (m := mLcG mi t m ma) (k := fun s d h => RS.nx (s.set i (some d)) h) q
  exact ⟨r, s, h, rp, rs, p.imp fun v H1 ⟨r1, s1, d, h1, rp1, rs1, rl1, p1⟩ => p1.here rp1 (rs1.set i rl1)⟩
end
end PM
end
section
set_option Elab.async false
set_option linter.all false
set_option maxRecDepth 100000
set_option maxHeartbeats 2000000
namespace PM
open PySem PySem.Spec PyProof.Rows L2

/-! ### dict comprehensions, keys of either kind -/
/-- the empty dict of a kind -/
def dE (tk : Bool) : HO := if tk then .dT [] else .dK []
def dEo (tk : Bool) : Ob := if tk then .dit [] else .dic []
theorem dE_ok {P : Program} {w : World} {H : Hp} (tk : Bool) (h : Heap) (hb : sysModules < h.objs.size) : ObjOk P w H (h.push { cls := .type "dict", data := .dict #[] }) h.objs.size (dE tk) := by
  cases tk with
  | true => exact dt_empty h hb
  | false => exact dk_empty h hb
section
variable {X : Cx} {K : PySem.W.Frag} {mg : Str → Option Value} {r : List Addr} {H : Hp} {h : HP} {W : WX} {kx vx tg iter : Expr} {ifs : List Expr} {scope : Scope} {own : List (Str × Nat)} {mk mv : ME} {pos : Pos}
/-- one entry is stored by the comprehension -/
theorem d_setC {pins : List (Addr × Obj)} {σ : L2.St} {s : Shared} {E : Value → Shared → Prop} {D : Addr} {y v : V} {H' : Hp} {u rr : Value} {Q : Unit → Shared → Prop} (hu : X.A.units + 1 < cLine) (I : Inv X pins σ H s) (g : DPut H D y v H') (ry : RelV y u) (rv : RelV v rr)
    (hQ : ∀ s', Inv X pins σ H' s' → Q () s') : wpAny (model X.prog X.w) X.A (dictSet D u rr) Q E s := by
  rcases g with ⟨kvs, k, hD, ey, hz, eH⟩ | ⟨kvs, k, b, hD, ey, eb, hz, eH⟩
  · subst ey eH
    exact d_dictSet I hD hz ry rv hQ
  · subst ey eH
    obtain rfl : u = Value.ref b := ry
    obtain ⟨z, hsm, xs, rel, dd⟩ := dt_of I.hok hD
    have hz1 : xs.length ≤ sizeLine := by rw [← Paired.length rel]; exact z
    have hl : (putK kvs k v).length ≤ sizeLine := by have := length_putK kvs k v; omega
    refine wpAny_dictSet_heap (hsz := hz1) (show X.A.units < cLine by omega) (key_of I.hok eb) dd fun h' dd' hs => hQ _ ?_
    obtain ⟨q, es, ep, hq, g2, g3, g4, _, g5⟩ := dd'
    refine d_write I (by rw [hD]; exact True.intro) hs ⟨q, hq⟩ ⟨hl, hsm, _, (rel.put k eb rv).keeps fun c ys ec => ?_, q, es, ep, hq, g2, g3, g4, g5⟩
    rw [upd_ne (ne_of ec hD (fun z => nomatch z))]
    exact ec
/-- the reading: the walk, the condition, key and value, the entry -/
def tDcT (tk : Bool) (wi : TI) (g : TG) (tt : TT) (te : L2.St → Hp → (V × V → Hp → Prop) → Prop) (vs : List Nat) : TE := fun σ H Q => wi σ H fun J H1 => ∀ D, H1 D = none → ∃ W : Nat → Nat → Hp → Prop, (∃ m, W 0 m (upd H1 D (dE tk))) ∧ ∀ i m H, W i m H →
  (J.stop i H ∧ Q (.ref D) H) ∨ (J.go i H ∧ ∃ Nx : Hp → Prop, (∀ H', Nx H' → ∃ m', m' < m ∧ W (i + 1) m' H') ∧ ∀ x H', J.yld i H x H' → g x (wipe σ vs) H' fun σ2 H2 => wipe σ2 vs = wipe σ vs ∧ tt σ2 H2 fun b H3 =>
    if b = true then te σ2 H3 fun p H4 => ∃ H5, DPut H4 D p.1 p.2 H5 ∧ Nx H5 else Nx H3)
/-- key and value, one after the other -/
def tKV (tk tv : TE) : L2.St → Hp → (V × V → Hp → Prop) → Prop := fun σ H Q => tk σ H fun y H1 => tv σ H1 fun z H2 => Q (y, z) H2
theorem dcT_core {pins : List (Addr × Obj)} {s : Shared} {σ : L2.St} {Q : VK} {pos' : Pos} {wi : TI} {g : TG} {tt : TT} {tk tv : TE} {use : Option (Value → Sem Unit)} {Qf : Value → Shared → Prop} (bk : Bool) (hu : X.A.units + 1 < cLine)
    (hcalm : X.calm = true) (hnd : X.N.Nodup) (I : Inv X pins σ H s) (hwalk : PI X tg iter wi) (blk : BlkOk X.N X.env.scope scope own)
    (hgt : ∀ s H C cl fp, PG (X.blk s H scope (compEnvC scope cl C X.env) fp) tg g) (hif : ∀ s H C cl fp, PTs (X.blk s H scope (compEnvC scope cl C X.env) fp) ifs tt)
    (hkx : ∀ s H C cl fp, PE (X.blk s H scope (compEnvC scope cl C X.env) fp) kx tk) (hvx : ∀ s H C cl fp, PE (X.blk s H scope (compEnvC scope cl C X.env) fp) vx tv) (hfold : ∀ x, foldedSetIterable iter X.env x = pure x)
    (q0 : tDcT bk wi g tt (tKV tk tv) (own.map (·.2)) σ H Q)
    (hend : ∀ D C s' m H', Inv X pins σ H' s' → Q (.ref D) H' → s'.heap.Ns C m → FpOk X pins H' C → compPost (model X.prog X.w) X.A X.xe use Qf (.ref D) C (.ok .next) s') :
    wpAny (model X.prog X.w) X.A (comprehension (.DictComp kx vx [⟨tg, iter, ifs, 0⟩] scope pos) scope X.env pos' newDict false (eval iter X.env) use) Qf X.xe s := by
  have free : ∀ y ∈ scope.names, y.2 = .free → ∃ c, X.env.cells.lookup y.1 = some c := fun y hy e => (blk.free y hy e).elim (fun z => I.ok.has _ (.inl z)) fun z => I.ok.has _ (.inr z)
  refine wpAny_comprehension_free (use := use) rfl hfold (closure_ok free) blk.kind (fun y hy e => (blk.uniq y hy).trans (congrArg some e)) (thn (hwalk.run pins s σ H _ I q0) fun xv sA hx => thn hx fun itv sB hB => ?_)
  obtain ⟨it, fp, tn, J, HB, rfl, IB, T, tB, fB, q⟩ := hB
  refine wpAny_newObj_type (newEnv_comp ?_)
  -- the new dict, at the heap's end
  have nD : HB sB.heap.objs.size = none := IB.hok.fresh (Nat.le_refl _)
  obtain ⟨Wl, ⟨m0, w0⟩, turns⟩ := q _ nD
  have IC0 : Inv X pins σ (upd HB sB.heap.objs.size (dE bk)) { sB with heap := sB.heap.push { cls := .type "dict", data := .dict #[] } } := IB.laid (t' := sB.toks) (fun b o e => Heap.get?_push_of_some _ e) (Nat.le_refl _) (dE_ok bk sB.heap IB.big)
  have ltB : ∀ b ∈ fp, b < sB.heap.objs.size := fun b hb => let ⟨_, e, _⟩ := T.obj _ _ tB b hb; Heap.lt_size e
  have neB : ∀ b ∈ fp, b ≠ sB.heap.objs.size := fun b hb => Nat.ne_of_lt (ltB b hb)
  have tC0 : tn 0 (sB.heap.push { cls := .type "dict", data := .dict #[] }) := T.keep _ _ _ tB fun b _ o e => Heap.get?_push_of_some _ e
  have szC : (sB.heap.push { cls := .type "dict", data := .dict #[] }).objs.size = sB.heap.objs.size + 1 := Heap.size_push _ _
  revert IC0 tC0 szC
  generalize hHC : upd HB sB.heap.objs.size (dE bk) = HC at w0
  generalize hDD : sB.heap.objs.size = DD at nD turns ltB neB hHC
  generalize hsC : ({ sB with heap := sB.heap.push { cls := .type "dict", data := .dict #[] } } : Shared) = sC
  have hC : sB.heap.push { cls := .type "dict", data := .dict #[] } = sC.heap := by rw [← hsC]
  rw [hC]
  intro IC tC szC
  have fC : ∀ b ∈ fp, FpOk X pins HC b ∧ b < sC.heap.objs.size := fun b hb => by
    refine ⟨⟨?_, (fB b hb).2⟩, by rw [szC]; exact Nat.lt_succ_of_lt (ltB b hb)⟩
    rw [← hHC, upd_ne (neB b hb)]
    exact (fB b hb).1
  have ID := block_start IC blk hnd fC
  have g1 := hgt sC HC sC.heap.objs.size (cellsFrom (sC.heap.objs.size + 1) scope.names (cloFrom X.env.cells scope.names [])) fp
  have g2 := hif sC HC sC.heap.objs.size (cellsFrom (sC.heap.objs.size + 1) scope.names (cloFrom X.env.cells scope.names [])) fp
  have g3 := hkx sC HC sC.heap.objs.size (cellsFrom (sC.heap.objs.size + 1) scope.names (cloFrom X.env.cells scope.names [])) fp
  have g4 := hvx sC HC sC.heap.objs.size (cellsFrom (sC.heap.objs.size + 1) scope.names (cloFrom X.env.cells scope.names [])) fp
  have huB : (X.blk sC HC scope (compEnvC scope (cellsFrom (sC.heap.objs.size + 1) scope.names (cloFrom X.env.cells scope.names [])) sC.heap.objs.size X.env) fp).A.units + 1 < cLine := hu
  show codeAny _ _ (.compStart _ 0 (.ref it) (.ref DD) (compEnvC scope (cellsFrom (sC.heap.objs.size + 1) scope.names (cloFrom X.env.cells scope.names [])) sC.heap.objs.size X.env)) (compPost _ X.A X.xe use Qf (.ref DD) sC.heap.objs.size) { sC with heap := pushCells (sC.heap.push { cls := .type "dict", data := .dict #[] }) scope.names }
  have hcl : (compEnvC scope (cellsFrom (sC.heap.objs.size + 1) scope.names (cloFrom X.env.cells scope.names [])) sC.heap.objs.size X.env).locals = sC.heap.objs.size := rfl
  revert ID g1 g2 g3 g4 huB hcl
  generalize compEnvC scope (cellsFrom (sC.heap.objs.size + 1) scope.names (cloFrom X.env.cells scope.names [])) sC.heap.objs.size X.env = env2
  intro ID g1 g2 g3 g4 huB hcl
  have tD : tn 0 ({ sC with heap := pushCells (sC.heap.push { cls := .type "dict", data := .dict #[] }) scope.names } : Shared).heap := T.keep _ _ _ tC fun b _ o e => pushCells_keeps _ _ _ _ (Heap.get?_push_of_some _ e)
  revert ID tD
  generalize ({ sC with heap := pushCells (sC.heap.push { cls := .type "dict", data := .dict #[] }) scope.names } : Shared) = sD
  intro ID tD
  have emp : ∀ b ∈ fp, HC b = none := fun b hb => (fC b hb).1.1
  -- the walk's own objects stand apart in the block, too
  have apart : ∀ {σ' : L2.St} {H' : Hp} {s' : Shared}, Inv (X.blk sC HC scope env2 fp) [] σ' H' s' → (∀ b ∈ fp, H' b = none) → ∀ b ∈ fp, FpOk (X.blk sC HC scope env2 fp) [] H' b := fun {σ' H' s'} J hz b hb => by
    obtain ⟨x1, x2⟩ := J.ok.exf b hb
    exact ⟨hz b hb, x1, J.ok.exfs b hb, .inl hb, fun x c e => x2 x c e, fun p hp => absurd hp (by show ¬ p ∈ ([] : List (Addr × Obj)) ++ []; simp)⟩
  have loop : codeAny (model X.prog X.w) X.A (.compLoop (.DictComp kx vx [⟨tg, iter, ifs, 0⟩] scope pos) 0 (.ref it) (.ref DD) env2) (compPost (model X.prog X.w) X.A X.xe use Qf (.ref DD) sC.heap.objs.size) sD := by
    refine compLoop_anyD (fun n s' => ∃ i H', Inv (X.blk sC HC scope env2 fp) [] (wipe σ (own.map (·.2))) H' s' ∧ tn i s'.heap ∧ (∀ b ∈ fp, H' b = none) ∧ Wl i n H') ?_ m0 ⟨0, HC, ID, tD, emp, w0⟩
    rintro n sE ⟨i, HE, IE, tE, nE, wE⟩
    rcases turns i n HE wE with ⟨stop, qE⟩ | ⟨go, Nx, hNx, turn⟩
    · refine thnF (T.done (X.blk sC HC scope env2 fp) rfl rfl rfl hcalm i [] sE _ HE (fun _ _ => False) IE (apart IE nE) tE stop) fun rr sF ⟨hr, IF⟩ => ?_
      subst hr
      have IG : Inv X pins σ HE sF := IC.call' (ch := fp) IF.os IF.base IF.hok IF.bare fun b hb => by
        obtain ⟨_, y1, _, y3, y4, y5⟩ := (fC b hb).1
        exact ⟨y3, y1, y4, y5⟩
      have nC : HE sC.heap.objs.size = none := by rw [← hcl]; exact IF.free
      obtain ⟨mN, hN, _⟩ := IF.loc
      exact hend DD sC.heap.objs.size sF mN HE IG qE (by rw [← hcl]; exact hN) (IC.fpOk (Nat.le_refl _) nC)
    · refine thnF (T.item (X.blk sC HC scope env2 fp) rfl rfl rfl hcalm i [] sE _ HE (fun _ _ => False) IE (apart IE nE) tE go) fun rr sF ⟨u, hr, hF⟩ => ?_
      subst hr
      refine thnF hF fun _ sG ⟨x, HG, IG, rG, yG, tG, nG⟩ => ?_
      have pinsG := IG.pinned (apart IG nG) (T.obj _ _ tG)
      refine thnF (g1.run _ sG _ HG x u _ pinsG rG (turn x HG yG)) fun _ s1 ⟨σ1, H1, I1, w1, q1⟩ => ?_
      refine thnF (g2.run _ s1 σ1 H1 _ I1 q1) fun bb s2 ⟨H2, I2, q2⟩ => ?_
      have again : ∀ {s' : Shared} {H' : Hp}, Inv (X.blk sC HC scope env2 fp) ([] ++ pinsAt fp sG.heap) σ1 H' s' → Nx H' → ∃ m, m < n ∧ ∃ i H', Inv (X.blk sC HC scope env2 fp) [] (wipe σ (own.map (·.2))) H' s' ∧ tn i s'.heap ∧ (∀ b ∈ fp, H' b = none) ∧ Wl i m H' := fun {s' H'} J nx => by
        obtain ⟨m, hm, w'⟩ := hNx H' nx
        have held : ∀ b ∈ fp, ∀ ob, sG.heap.get? b = some ob → s'.heap.get? b = some ob ∧ H' b = none := fun b hb ob e => by
          obtain ⟨z1, z2, _⟩ := J.pin (b, ob) (List.mem_append_right _ (List.mem_append_right _ (mem_pinsAt hb e)))
          exact ⟨z1, z2⟩
        refine ⟨m, hm, i + 1, H', (J.unpinned (pins := [])).weak (by rw [← w1, wipe_length]) (fun j v e => (wipe_some (by rw [← w1] at e; exact e)).1), T.keep _ _ _ tG fun b hb ob e => (held b hb ob e).1, fun b hb => ?_, w'⟩
        obtain ⟨ob, e, _⟩ := T.obj _ _ tG b hb
        exact (held b hb ob e).2
      cases bb with
      | false => exact again I2 q2
      | true =>
        refine thnF (g3.run _ s2 σ1 H2 _ I2 q2) fun uk s3 ⟨yk, H3, I3, rk, q3⟩ => ?_
        refine thnF (g4.run _ s3 σ1 H3 _ I3 q3) fun uv s4 ⟨yv, H4, I4, rv, H5, dp, nx⟩ => ?_
        exact d_setC (X := X.blk sC HC scope env2 fp) huB I4 dp rk rv fun s5 I5 => again I5 nx
  exact codeAny_compStart_dict loop (T.self X.A 0 _ _ _ tD loop)
theorem pe_dcT {wi : TI} {g : TG} {tt : TT} {tk tv : TE} (bk : Bool) (hu : X.A.units + 1 < cLine) (hcalm : X.calm = true) (hnd : X.N.Nodup) (hwalk : PI X tg iter wi) (blk : BlkOk X.N X.env.scope scope own)
    (hgt : ∀ s H C cl fp, PG (X.blk s H scope (compEnvC scope cl C X.env) fp) tg g) (hif : ∀ s H C cl fp, PTs (X.blk s H scope (compEnvC scope cl C X.env) fp) ifs tt)
    (hkx : ∀ s H C cl fp, PE (X.blk s H scope (compEnvC scope cl C X.env) fp) kx tk) (hvx : ∀ s H C cl fp, PE (X.blk s H scope (compEnvC scope cl C X.env) fp) vx tv) (hfold : ∀ x, foldedSetIterable iter X.env x = pure x := by intro _; rfl) :
    PE X (.DictComp kx vx [⟨tg, iter, ifs, 0⟩] scope pos) (tDcT bk wi g tt (tKV tk tv) (own.map (·.2))) := by
  refine ⟨fun pins s σ H Q I q => ?_⟩
  rw [arm_eval_DictComp]
  refine dcT_core bk hu hcalm hnd I hwalk blk hgt hif hkx hvx hfold q fun D C s' m H' I' qe hn f => ⟨m, hn, fun h2 sb => ?_⟩
  obtain ⟨f0, f1, f2, f3, f4, f5⟩ := f
  exact ⟨.ref D, H', I'.turned (t' := s'.toks) (fun b ob hb e => (sb.2 b hb).trans e) f0 f1 f3 f4 f5, rfl, qe⟩
/-- name = {k: v for ..}, the name a local -/
theorem ps_setDcT {i : Nat} {y : Str} {py spos : Pos} {wi : TI} {g : TG} {tt : TT} {tk tv : TE} (bk : Bool) (hu : X.A.units + 1 < cLine) (hcalm : X.calm = true) (hnd : X.N.Nodup) (hy : X.N[i]? = some y) (hyl : X.env.scope.names.lookup y = some .local)
    (hsw : swapsWith (.DictComp kx vx [⟨tg, iter, ifs, 0⟩] scope pos) (some (.Name y py)) spos.line X.env = pure true) (hwalk : PI X tg iter wi) (blk : BlkOk X.N X.env.scope scope own)
    (hgt : ∀ s H C cl fp, PG (X.blk s H scope (compEnvC scope cl C X.env) fp) tg g) (hif : ∀ s H C cl fp, PTs (X.blk s H scope (compEnvC scope cl C X.env) fp) ifs tt)
    (hkx : ∀ s H C cl fp, PE (X.blk s H scope (compEnvC scope cl C X.env) fp) kx tk) (hvx : ∀ s H C cl fp, PE (X.blk s H scope (compEnvC scope cl C X.env) fp) vx tv) (hfold : ∀ x, foldedSetIterable iter X.env x = pure x := by intro _; rfl) :
    PS X (.Assign [.Name y py] (.DictComp kx vx [⟨tg, iter, ifs, 0⟩] scope pos) spos) (tAsg (tDcT bk wi g tt (tKV tk tv) (own.map (·.2))) (gName i)) := by
  refine ⟨fun pins s σ H D I q => ?_⟩
  rw [exec_Assign_Name_used _ _ _ _ hsw]
  have q : tDcT bk wi g tt (tKV tk tv) (own.map (·.2)) σ H (fun v H1 => gName i v σ H1 D.nx) := q
  refine wpAny_bind (wpAny_standAt (wpAny_bind ?_))
  show wpAny _ X.A (do let _ ← comprehension (.DictComp kx vx [⟨tg, iter, ifs, 0⟩] scope pos) scope X.env (firstIterPos [⟨tg, iter, ifs, 0⟩] pos) newDict false (eval iter X.env) (some (assign (.Name y py) X.env))) _ _ s
  refine wpAny_bind (thn (dcT_core (Qf := fun _ s' => SP X pins D .next s') bk hu hcalm hnd I hwalk blk hgt hif hkx hvx hfold q fun Dn C s' m H' I' qe hn f => ?_) fun _ s' z => wpAny_pure (wpAny_pure z))
  show wpAny _ _ (assign (.Name y py) X.env (.ref Dn)) _ _ _
  refine wpAny_assign_Name (store_ok2 (v := V.ref Dn) I' hnd hy (.inl hyl) rfl (fun s2 I2 ⟨a, sb, ha⟩ => ?_) (.inr hyl))
  obtain ⟨f0, f1, f2, f3, f4, f5⟩ := f
  have neC : C ≠ a := ha.elim (fun z => by rw [z]; exact f1) fun z e => f4 y a z e.symm
  exact ⟨m, hn.sameBut sb neC, fun h3 sb3 => ⟨_, H', I2.turned (t' := s2.toks) (fun b ob hb e => (sb3.2 b hb).trans e) f0 f1 f3 f4 f5, qe⟩⟩
/-! plain -/
theorem putD_n {n : Nat} {r : List Addr} {h h1 : HP} {H : Hp} {y : D × D} {w : V × V} {Dl : Addr} (rp : Rep K mg r h H) (ea : r[n]? = some Dl) (ry : RelD K mg r H y.1 w.1 ∧ RelD K mg r H y.2 w.2) (e : putD n y.1 y.2 h = some h1) :
    ∃ H1, DPut H Dl w.1 w.2 H1 ∧ Keep H H1 ∧ Rep K mg r h1 H1 := putD_ok rp ea ry.1 ry.2 e
def rDV : RR (D × D) (V × V) := ⟨fun K mg r H p q => RelD K mg r H p.1 q.1 ∧ RelD K mg r H p.2 q.2, fun e k h => ⟨h.1.mono e k, h.2.mono e k⟩⟩
theorem kv_sem {σ : L2.St} {Q : V × V → Hp → Prop} (q : tM K mg rDV W (mPair mk mv) σ H Q) : tKV (tM K mg rD W mk) (tM K mg rD W mv) σ H Q := by
  obtain ⟨r, s, h, rp, rs, p⟩ := tM.bind (rr1 := rD) (m := mk) (k := fun s k h => (mv s h).bind fun v h => .ok (k, v) h) q
  refine ⟨r, s, h, rp, rs, p.imp fun x H1 ⟨r1, s1, d, h1, rp1, rs1, rl1, p1⟩ => ⟨r1, s1, h1, rp1, rs1, (Post.bind (rr1 := rD) p1).imp fun y H2 ⟨r2, d2, h2, e2, k2, rp2, rl2, p2⟩ => ?_⟩⟩
  exact Post.here (rr := rDV) p2 rp2 ⟨rl1.mono e2 k2, rl2⟩
theorem tgs_mono {H1 : Hp} {Q1 Q2 : L2.St → Hp → Prop} (hq : ∀ σ H, Q1 σ H → Q2 σ H) : ∀ (is : List Nat) (xs : List V) (σ1 : L2.St), tgsOf is xs σ1 H1 Q1 → tgsOf is xs σ1 H1 Q2
  | [], xs, σ1, ⟨z1, z2⟩ => ⟨z1, hq _ _ z2⟩
  | i :: is, xs, σ1, ⟨v, rr, z1, z2⟩ => ⟨v, rr, z1, tgs_mono hq is _ _ z2⟩
theorem tg_mono {t : Tg} {x : V} {σ1 : L2.St} {H1 : Hp} {Q1 Q2 : L2.St → Hp → Prop} (hq : ∀ σ H, Q1 σ H → Q2 σ H) (g : t.tg K x σ1 H1 Q1) : t.tg K x σ1 H1 Q2 := by
  cases t with
  | one i => exact hq _ _ g
  | many is =>
    obtain ⟨a, xs, g1, g2, g3, g4⟩ := g
    exact ⟨a, xs, g1, g2, g3, tgs_mono hq _ _ _ g4⟩
theorem dc_sem {bk : Bool} {mi : MI} {t : Tg} {m : MT} {σ : L2.St} {Q : VK} (q : tM K mg rD W (mDc (dEo bk) mi t m mk mv) σ H Q) : tDcT bk (rIt K mg W mi) (t.tg K) (tM K mg rB W0 m) (tKV (tM K mg rD W0 mk) (tM K mg rD W0 mv)) t.slots σ H Q := by
  obtain ⟨r, s, h, rp, rs, p⟩ := q
  refine ⟨r, s, h, rp, rs, ?_⟩
  unfold mDc at p
  cases z : mi s h with
  | exc c fs h' => rw [z] at p; exact p
  | bad => rw [z] at p; exact p.elim
  | ok y h' =>
    rw [z] at p
    obtain ⟨ds, G⟩ := y
    have p : Post K mg rD W r σ H Q (cLoop G t m (mPair mk mv) (fun p h2 => putD h'.length p.1 p.2 h2) h'.length ds (wipeD s t.slots) (h' ++ [dEo bk])) := p
    intro r0 H0 J e0 k0 rp0 j Dl hn
    have rpn : Rep K mg (r0 ++ [Dl]) (h' ++ [dEo bk]) (upd H0 Dl (dE bk)) := by
      cases bk with
      | true => exact rp0.new (o := .dit []) hn ⟨[], upd_same, .nil⟩
      | false => exact rp0.new (o := .dic []) hn ⟨[], upd_same, .nil⟩
    obtain ⟨W', w0, tn⟩ := c_sem (rr := rDV) (st := fun (w : V × V) H H1 => DPut H Dl w.1 w.2 H1) (u0 := dE bk) (fun rp ea ry e => putD_n rp ea ry e) rp0 (rs.mono e0 k0) j hn rpn (Post.mono p e0 k0)
    refine ⟨W', w0, fun i md H1 w1 => ?_⟩
    rcases tn i md H1 w1 with q | ⟨go, Nx, n1, n2⟩
    · exact .inl q
    · refine .inr ⟨go, Nx, n1, fun x H' y => tg_mono (fun σ2 H2 ⟨z1, r, s, h, z2, z3, z4⟩ => ⟨z1, r, s, h, z2, z3, z4.imp fun b H3 z5 => ?_⟩) (n2 x H' y)⟩
      cases b with
      | false => exact z5
      | true => exact kv_sem z5
theorem qe_dc {mi : MI} {m : MT} (t : Tg) (bk : Bool) (hu : X.A.units + 1 < cLine) (hc : X.calm = true) (hN : X.N.Nodup) (hi : QI X W tg iter mi) (ok : BlkOk X.N X.env.scope scope own) (ho : own.map (·.2) = t.slots)
    (hg : ∀ s H C cl fp, PG (X.blk s H scope (compEnvC scope cl C X.env) fp) tg (t.tg X.K)) (ht : ∀ s H C cl fp, QTs (X.blk s H scope (compEnvC scope cl C X.env) fp) ifs m)
    (hk : ∀ s H C cl fp, QE (X.blk s H scope (compEnvC scope cl C X.env) fp) W0 kx mk) (hv : ∀ s H C cl fp, QE (X.blk s H scope (compEnvC scope cl C X.env) fp) W0 vx mv) (hs : ∀ x, foldedSetIterable iter X.env x = pure x := by intro _; rfl) :
    QE X W (.DictComp kx vx [⟨tg, iter, ifs, 0⟩] scope pos) (mDc (dEo bk) mi t m mk mv) := (pe_dcT (own := own) (tt := tM X.K X.mg rB W0 m) (tk := tM X.K X.mg rD W0 mk) (tv := tM X.K X.mg rD W0 mv) bk hu hc hN hi ok hg ht hk hv hs).imp fun σ H Q q => by
  rw [ho]; exact dc_sem q
theorem qs_setDc {i : Nat} {y : Str} {py spos : Pos} {mi : MI} {m : MT} (t : Tg) (bk : Bool) (hu : X.A.units + 1 < cLine) (hc : X.calm = true) (hN : X.N.Nodup) (hy : X.N[i]? = some y) (hyl : X.env.scope.names.lookup y = some .local)
    (hsw : swapsWith (.DictComp kx vx [⟨tg, iter, ifs, 0⟩] scope pos) (some (.Name y py)) spos.line X.env = pure true) (hi : QI X W tg iter mi) (ok : BlkOk X.N X.env.scope scope own) (ho : own.map (·.2) = t.slots)
    (hg : ∀ s H C cl fp, PG (X.blk s H scope (compEnvC scope cl C X.env) fp) tg (t.tg X.K)) (ht : ∀ s H C cl fp, QTs (X.blk s H scope (compEnvC scope cl C X.env) fp) ifs m)
    (hk : ∀ s H C cl fp, QE (X.blk s H scope (compEnvC scope cl C X.env) fp) W0 kx mk) (hv : ∀ s H C cl fp, QE (X.blk s H scope (compEnvC scope cl C X.env) fp) W0 vx mv) (hs : ∀ x, foldedSetIterable iter X.env x = pure x := by intro _; rfl) :
    QS X W (.Assign [.Name y py] (.DictComp kx vx [⟨tg, iter, ifs, 0⟩] scope pos) spos) (mSet i (mDc (dEo bk) mi t m mk mv)) := (ps_setDcT (own := own) (tt := tM X.K X.mg rB W0 m) (tk := tM X.K X.mg rD W0 mk) (tv := tM X.K X.mg rD W0 mv) bk hu hc hN hy hyl hsw hi ok hg ht hk hv hs).imp fun D0 σ H q => by
  rw [ho]
  refine dc_sem (Q := fun v H1 => gName i v σ H1 D0.nx) ?_
  obtain ⟨r, s, h, rp, rs, p⟩ := tS.ofE (rr := rD) (m := mDc (dEo bk) mi t m mk mv) (k := fun s d h => RS.nx (s.set i (some d)) h) q
  exact ⟨r, s, h, rp, rs, p.imp fun v H1 ⟨r1, s1, d, h1, rp1, rs1, rl1, p1⟩ => p1.here rp1 (rs1.set i rl1)⟩
end
end PM
end
section
set_option Elab.async false
set_option linter.all false
set_option maxRecDepth 100000
set_option maxHeartbeats 2000000
namespace PM
open PySem PySem.Spec PyProof.Rows L2

section
variable {X : Cx} {K : PySem.W.Frag} {mg : Str → Option Value} {r : List Addr} {H : Hp} {h : HP} {W : WX} {e : Expr} {es : List Expr} {t : MA} {pos : Pos}

/-! ### all items at once -/
def collG (d : D) (h : HP) : Option (List D) := match d with
  | .ref i => match h[i]? with
    | some (.dic kvs) => some (kvs.map fun kv => kD kv.1)
    | some (.rdd kvs) => some (kvs.map fun kv => kD kv.1)
    | some (.dit kvs) => some (kvs.map fun kv => .tup (kv.1.map kD))
    | some (.rdt kvs) => some (kvs.map fun kv => .tup (kv.1.map kD))
    | _ => seqD d h
  | _ => seqD d h
theorem collect_tup {prog : Program} {w : World} {A : Around} {E : Value → Shared → Prop} {s : Shared} {l : Addr} {vs : List Value} {Q : List Value → Shared → Prop} (hl : IsTup s.heap l vs.toArray)
    (hQ : Q vs { s with heap := (s.heap.push (seqObj "list" #[] 0)).update s.heap.objs.size (Obj.mapSeq (· ++ vs.toArray)) }) (hsz : vs.length ≤ sizeLine) : wpAny (model prog w) A (collect (.ref l)) Q E s := by
  obtain ⟨o, ho, hc, n, hd⟩ := hl
  have ho' : (s.heap.push (seqObj "list" #[] 0)).get? l = some o := Heap.get?_push_of_some _ ho
  have hn : (s.heap.push (seqObj "list" #[] 0)).get? s.heap.objs.size = some (seqObj "list" #[] 0) := Heap.get?_push_size _ rfl
  unfold collect
  refine wpAny_bind (wpAny_runValue (codeAny_builtin entry_proto_collect' ?_))
  refine wpAny_bind (wpAny_newList (wpAny_pure ⟨Code.quiet_builtin _ (by decide +kernel), codeAny_builtin entry_list_iadd' ?_⟩))
  show wpAny _ _ (Builtin.List.listExtendWith (.ref s.heap.objs.size) (.ref l) (.ref s.heap.objs.size)) _ _ { s with heap := s.heap.push (seqObj "list" #[] 0) }
  unfold Builtin.List.listExtendWith
  refine wpAny_bind (wpAny_typeOf (T := "tuple") ⟨o, ho', hc⟩ ?_)
  rw [if_pos (by rw [show (Value.type "tuple" == Value.type "tuple") = true from rfl, Bool.or_true])]
  refine wpAny_bind (listItems_at ho' hd ?_)
  refine wpAny_bind (listItems_at (xs := #[]) (n := 0) hn rfl ?_)
  rw [if_neg (by simp)]
  refine wpAny_bind (listUpdate_at (xs := #[]) (n := 0) hn rfl ?_ (Nat.zero_le _) (by show (#[] ++ vs.toArray).size ≤ sizeLine + 1; simp only [Array.size_append, List.size_toArray, List.length_nil]; omega))
  refine wpAny_pure ?_
  show wpAny (model prog w) A ((load s.heap.objs.size) >>= fun o => match o.data with
      | .seq xs _ => pure xs.toList
      | _ => unsupported "internal:collect") Q E { s with heap := (s.heap.push (seqObj "list" #[] 0)).update s.heap.objs.size (Obj.mapSeq (· ++ vs.toArray)) }
  refine wpAny_bind (wpAny_load (get?_update_seq hn _) ?_)
  show wpAny _ _ (pure ((#[] : Array Value) ++ vs.toArray).toList) Q E _
  have ev : ((#[] : Array Value) ++ vs.toArray).toList = vs := by simp
  rw [ev]
  exact wpAny_pure hQ
theorem cop_old {h : Heap} {vs : Array Value} {b : Addr} {o : Obj} (q : h.get? b = some o) : ((h.push (seqObj "list" #[] 0)).update h.objs.size (Obj.mapSeq (· ++ vs))).get? b = some o := by
  rw [Heap.get?_update_ne _ _ _ _ (Nat.ne_of_lt (Heap.lt_size q))]
  exact Heap.get?_push_of_some _ q
theorem vals_of_items {ks : List Key} {acc : Array Value} (hl : acc.size = ks.length) (hi : ∀ (j : Nat) (v : Value), acc[j]? = some v → ∃ k, ks[j]? = some k ∧ RelV (kV k) v) : Vals (ks.map kV) acc.toList := by
  have go : ∀ (ks : List Key) (vs : List Value), vs.length = ks.length → (∀ (j : Nat) (v : Value), vs[j]? = some v → ∃ k, ks[j]? = some k ∧ RelV (kV k) v) → Vals (ks.map kV) vs := by
    intro ks
    induction ks with
    | nil => intro vs hl _; cases vs with
      | nil => exact .nil
      | cons _ _ => cases hl
    | cons k ks ih =>
      intro vs hl hi
      cases vs with
      | nil => cases hl
      | cons v vs =>
        obtain ⟨k', e1, e2⟩ := hi 0 v rfl
        cases e1
        exact .cons e2 (ih vs (by simpa using hl) fun j v e => hi (j + 1) v (by simpa using e))
  exact go ks acc.toList (by simpa using hl) fun j v e => hi j v (by rw [← Array.getElem?_toList]; exact e)
theorem collect_any {pins : List (Addr × Obj)} {s : Shared} {σ : L2.St} {E : Value → Shared → Prop} {A : Around} {d : D} {v : V} {u : Value} {xs : List D} {Q : List Value → Shared → Prop} (hh : A.handled = none) (I : Inv X pins σ H s) (rp : Rep X.K X.mg r h H) (rl : RelD X.K X.mg r H d v) (rv : RelV v u)
    (e : collG d h = some xs) (hQ : ∀ us vs h' tk, Inv X pins σ H { s with heap := h', toks := tk } → (∀ b o, s.heap.get? b = some o → h'.get? b = some o) → RelDs X.K X.mg r H xs vs → Vals vs us → us.length ≤ sizeLine → Q us { s with heap := h', toks := tk }) :
    wpAny (model X.prog X.w) A (collect u) Q E s := by
  have seq : seqD d h = some xs → wpAny (model X.prog X.w) A (collect u) Q E s := fun e => by
    obtain ⟨ad, vs, rfl, rls, q⟩ := seqD_ok2 rp rl e
    obtain rfl : u = Value.ref ad := rv
    rcases q with ⟨sq, _⟩ | ⟨sq, _⟩
    · obtain ⟨its, rv2, pl, hz⟩ := I.list sq
      have hz' : its.length ≤ sizeLine := by rw [← rv2.length]; exact hz
      exact collect_list pl.isList (hQ _ _ _ s.toks (I.kept (t' := s.toks) fun b o q => cop_old q) (fun b o q => cop_old q) rls rv2 hz') hz'
    · obtain ⟨its, rv2, pt, hz⟩ := I.tuple sq
      have hz' : its.length ≤ sizeLine := by rw [← rv2.length]; exact hz
      exact collect_tup pt (hQ _ _ _ s.toks (I.kept (t' := s.toks) fun b o q => cop_old q) (fun b o q => cop_old q) rls rv2 hz') hz'
  have dk : ∀ {ad : Addr} {kvs : List (Key × D)} {vs : List (Key × V)}, v = .ref ad → Rd H ad (.dK vs) → RelP X.K X.mg r H kvs vs → xs = kvs.map (fun kv => kD kv.1) → wpAny (model X.prog X.w) A (collect u) Q E s := fun {ad kvs vs} ev hd rls ex => by
    subst ev ex
    obtain rfl : u = Value.ref ad := rv
    obtain ⟨z, lo, vs', rel, dd⟩ := dk_rd I.hok hd
    obtain ⟨ep, hat⟩ := dd.dictAt
    have hl : vs.length = vs'.length := rel.length
    have hz : vs'.length ≤ sizeLine := by rw [← hl]; exact z
    refine PySem.W.kdu_collect (A := A) (PySem.W.kdl_dict (knd := mixKind X.prog X.w) (kvs := vs') (ep := ep) lo) hh hat hz fun h' tk acc hk hacc => ?_
    have ek : vs.map (·.1) = vs'.map (·.1) := rel.keys
    have ek2 : kvs.map (·.1) = vs.map (·.1) := by
      clear hQ seq e hacc ek hz hl hat dd rel z hd
      induction rls with
      | nil => rfl
      | cons q t ih => rw [List.map_cons, List.map_cons, ih, q.1]
    have hv : Vals ((vs.map (·.1)).map kV) acc.toList := vals_of_items (by rw [hacc.1, List.length_map, hl]) fun j v e => by
      obtain ⟨k, x, e1, e2⟩ := hacc.2 j v e
      refine ⟨k, ?_, relV_key (show keyIs k v = true from e2)⟩
      rw [ek, List.getElem?_map, e1]; rfl
    refine hQ acc.toList _ h' tk (I.kept hk) hk ?_ hv (by rw [Array.length_toList, hacc.1]; exact hz)
    rw [← ek2]
    have := kDs_rel (K := X.K) (mg := X.mg) (r := r) (H := H) (kvs.map (·.1))
    rw [List.map_map] at this
    exact this
  have dt : ∀ {ad : Addr} {kvs : List (List Key × D)} {vs : List (List Key × V)}, v = .ref ad → Rd H ad (.dT vs) → RelP X.K X.mg r H kvs vs → xs = kvs.map (fun kv => .tup (kv.1.map kD)) → wpAny (model X.prog X.w) A (collect u) Q E s := fun {ad kvs vs} ev hd rls ex => by
    subst ev ex
    obtain rfl : u = Value.ref ad := rv
    obtain ⟨z, lo, xs', pr, o, es, ep, ho, hx, hdt, he, _⟩ := (show ObjOk X.prog X.w H s.heap ad (.dT vs) from rd_of I.hok hd)
    have hsz : es.size = vs.length := by rw [size_of_entries he, ← Paired.length pr]
    refine PySem.W.kdu_collect (A := A) (KdlSrc.rawDict (es := es) (ep := ep) lo) hh ⟨o, ho, hx, hdt⟩ (by rw [hsz]; exact z) fun h' tk acc hk hacc => ?_
    have main : ∃ ws, Vals ws acc.toList ∧ RelDs X.K X.mg r H (kvs.map fun kv => D.tup (kv.1.map kD)) ws := by
      have at' : ∀ (j : Nat) (v : Value), acc.toList[j]? = some v → ∃ q b, xs'[j]? = some q ∧ v = .ref q.2.1 ∧ vs[j]? = some b ∧ H q.2.1 = some (.tup (b.1.map kV)) := fun j v e => by
        obtain ⟨hi, e1⟩ := hacc.2 j v (by rw [← Array.getElem?_toList]; exact e)
        have e2 := entry_at he j
        rw [Array.getElem?_eq_getElem hi] at e2
        cases e3 : xs'[j]? with
        | none => rw [e3] at e2; cases e2
        | some q =>
          rw [e3] at e2
          have e4 : es[j] = entryOfKey (tupleKind (mixKind X.prog X.w)) q := Option.some.inj e2
          have hj : j < vs.length := by rw [← hsz]; exact hi
          obtain ⟨y, hy, z1, z2, z3⟩ := L2.paired_get pr (List.getElem?_eq_getElem hj)
          rw [e3] at hy
          cases hy
          exact ⟨q, vs[j], rfl, by rw [e1, e4]; rfl, List.getElem?_eq_getElem hj, z2⟩
      have hl : acc.toList.length = kvs.length := by rw [Array.length_toList, hacc.1, hsz, ← relP_len rls]
      clear hQ seq dk hacc e
      generalize acc.toList = us at at' hl
      have go : ∀ (kvs : List (List Key × D)) (us : List Value) (vs : List (List Key × V)), RelP X.K X.mg r H kvs vs → us.length = kvs.length → (∀ (j : Nat) (v : Value), us[j]? = some v → ∃ (q : Addr) (b : List Key × V), v = .ref q ∧ vs[j]? = some b ∧ H q = some (.tup (b.1.map kV))) → ∃ ws, Vals ws us ∧ RelDs X.K X.mg r H (kvs.map fun kv => D.tup (kv.1.map kD)) ws := by
        intro kvs us vs rls
        induction rls generalizing us with
        | nil => intro hl _; cases us with
          | nil => exact ⟨[], .nil, .nil⟩
          | cons _ _ => cases hl
        | cons q t ih =>
          intro hl hi
          cases us with
          | nil => cases hl
          | cons v us =>
            obtain ⟨a, b, e1, e2, e3⟩ := hi 0 v rfl
            cases e2
            subst e1
            obtain ⟨ws, w1, w2⟩ := ih us (by simpa using hl) fun j v e => hi (j + 1) v (by simpa using e)
            exact ⟨.ref a :: ws, .cons rfl w1, .cons (.tup e3 (by rw [q.1]; exact kDs_rel _)) w2⟩
      exact go kvs us vs rls hl fun j v e => let ⟨q, b, _, e2, e3, e4⟩ := at' j v e; ⟨q.2.1, b, e2, e3, e4⟩
    obtain ⟨ws, w1, w2⟩ := main
    exact hQ acc.toList ws h' tk (I.kept hk) hk w2 w1 (by rw [Array.length_toList, hacc.1, hsz]; exact z)
  unfold collG at e
  cases rl with
  | @ref i ad ea =>
    dsimp only at e
    split at e
    · rename_i kvs hx
      obtain ⟨vs, q, rls⟩ := rp.obs _ _ ad hx ea
      exact dk rfl (.inl q) rls (Option.some.inj e).symm
    · rename_i kvs hx
      obtain ⟨od, vs, q, rls⟩ := rp.obs _ _ ad hx ea
      exact dk rfl (.inr ⟨od, q⟩) rls (Option.some.inj e).symm
    · rename_i kvs hx
      obtain ⟨vs, q, rls⟩ := rp.obs _ _ ad hx ea
      exact dt rfl (.inl q) rls (Option.some.inj e).symm
    · rename_i kvs hx
      obtain ⟨od, vs, q, rls⟩ := rp.obs _ _ ad hx ea
      exact dt rfl (.inr ⟨od, q⟩) rls (Option.some.inj e).symm
    · exact seq e
  | _ => exact seq e
end
end PM
end
section
set_option Elab.async false
set_option linter.all false
set_option maxRecDepth 100000
set_option maxHeartbeats 2000000
namespace PM
open PySem PySem.Spec PyProof.Rows L2

section
variable {X : Cx} {K : PySem.W.Frag} {mg : Str → Option Value} {r : List Addr} {H : Hp} {h : HP} {W : WX} {e : Expr} {es : List Expr} {t : MA} {pos : Pos}
/-! ### sorted -/
/-- the data can be sorted -/
def SrtOk (ps : List PyData) : Prop := PySem.W.AllAlike ps ∧ PySem.W.Sortable ps ∧ (∀ p ∈ ps, p.depth ≤ 60) ∧ ps.length ≤ 1000000
/-- the items by their keys -/
noncomputable def srt (xs : List D) (ps : List PyData) : List D := ((xs.zip ps).mergeSort (PySem.W.dataLe false (·.2))).map (·.1)
open Classical in
noncomputable def srtG : List D → HP → Option (D × HP) := fun ds h => match ds with
  | [d] => match collG d h with
    | some xs => match xs.mapM (toPy 60 h) with
      | some ps => if SrtOk ps then some (.ref h.length, h ++ [.lst (srt xs ps)]) else none
      | none => none
    | none => none
  | _ => none
/-- the keys, one call after the other -/
def runKeys (m : List D → HP → R D) : List D → HP → R (List D)
  | [], h => .ok [] h
  | x :: xs, h => match m [x] h with
    | .ok k h => match runKeys m xs h with
      | .ok ks h => .ok (k :: ks) h
      | _ => .bad
    | _ => .bad
open Classical in
noncomputable def srtK (m : List D → HP → R D) : List D → HP → R D := fun ds h => match ds with
  | [d] => match collG d h with
    | some xs => match runKeys m xs h with
      | .ok ks h => match ks.mapM (toPy 60 h) with
        | some ps => if SrtOk ps then .ok (.ref h.length) (h ++ [.lst (srt xs ps)]) else .bad
        | none => .bad
      | _ => .bad
    | none => .bad
  | _ => .bad
/-- an item with its key's data, its abstract value -/
abbrev It3 := D × PyData × V
def zip3 : List D → List PyData → List V → List It3
  | d :: ds, p :: ps, v :: vs => (d, p, v) :: zip3 ds ps vs
  | _, _, _ => []
theorem zip3_d : ∀ {ds : List D} {ps : List PyData} {vs : List V}, ds.length = ps.length → vs.length = ps.length → (zip3 ds ps vs).map (fun b => (b.1, b.2.1)) = ds.zip ps
  | [], [], [], _, _ => rfl
  | _ :: _, _ :: _, _ :: _, h1, h2 => by unfold zip3; rw [List.map_cons, zip3_d (by simpa using h1) (by simpa using h2)]; rfl
  | [], _ :: _, _, h1, _ => by cases h1
  | _ :: _, [], _, h1, _ => by cases h1
  | _, [], _ :: _, _, h2 => by cases h2
  | _, _ :: _, [], _, h2 => by cases h2
theorem zip3_p : ∀ {ds : List D} {ps : List PyData} {vs : List V}, ds.length = ps.length → vs.length = ps.length → (zip3 ds ps vs).map (fun b => b.2.1) = ps
  | [], [], [], _, _ => rfl
  | _ :: _, _ :: _, _ :: _, h1, h2 => by unfold zip3; rw [List.map_cons, zip3_p (by simpa using h1) (by simpa using h2)]
  | [], _ :: _, _, h1, _ => by cases h1
  | _ :: _, [], _, h1, _ => by cases h1
  | _, [], _ :: _, _, h2 => by cases h2
  | _, _ :: _, [], _, h2 => by cases h2
theorem zip3_is {us : List Value} : ∀ {ds : List D} {ps : List PyData} {vs : List V} {us : List Value}, ds.length = ps.length → Vals vs us → RelDs K mg r H ds vs → PySem.W.EachIs (fun u (b : It3) => RelV b.2.2 u ∧ RelD K mg r H b.1 b.2.2) us (zip3 ds ps vs)
  | [], [], _, _, _, .nil, .nil => .nil
  | _ :: _, _ :: _, _, _, h1, .cons a b, .cons c d => .cons ⟨a, c⟩ (zip3_is (us := us) (by simpa using h1) b d)
  | [], _ :: _, _, _, h1, _, _ => by cases h1
  | _ :: _, [], _, _, h1, _, _ => by cases h1
theorem each_vals {us : List Value} {bs : List It3} (e : PySem.W.EachIs (fun u (b : It3) => RelV b.2.2 u ∧ RelD K mg r H b.1 b.2.2) us bs) : Vals (bs.map fun b => b.2.2) us ∧ RelDs K mg r H (bs.map fun b => b.1) (bs.map fun b => b.2.2) := by
  induction e with
  | nil => exact ⟨.nil, .nil⟩
  | cons a t ih => exact ⟨.cons a.1 ih.1, .cons a.2 ih.2⟩
theorem srt_map {ds : List D} {ps : List PyData} {vs : List V} (h1 : ds.length = ps.length) (h2 : vs.length = ps.length) : ((zip3 ds ps vs).mergeSort (PySem.W.dataLe false fun b => b.2.1)).map (fun b => b.1) = srt ds ps := by
  unfold srt
  have z := List.map_mergeSort (r := PySem.W.dataLe false fun b : It3 => b.2.1) (s := PySem.W.dataLe false fun b : D × PyData => b.2) (f := fun b : It3 => (b.1, b.2.1)) (l := zip3 ds ps vs) (fun a _ b _ => rfl)
  rw [← zip3_d h1 h2, ← z, List.map_map]
  rfl
theorem mapM_len {α β : Type} {f : α → Option β} : ∀ {xs : List α} {ys : List β}, xs.mapM f = some ys → xs.length = ys.length
  | [], ys, e => by simp at e; subst e; rfl
  | x :: xs, ys, e => by
    rw [List.mapM_cons] at e
    cases e1 : f x with
    | none => rw [e1] at e; cases e
    | some y =>
      rw [e1] at e
      cases e2 : xs.mapM f with
      | none => rw [e2] at e; cases e
      | some ys' => rw [e2] at e; cases e; simp [mapM_len e2]
theorem reads_all {pins : List (Addr × Obj)} {s : Shared} {σ : L2.St} {h : HP} {r : List Addr} {H : Hp} (I : Inv X pins σ H s) (rp : Rep X.K X.mg r h H) : ∀ {ds : List D} {ps : List PyData} {vs : List V} {us : List Value}, ds.mapM (toPy 60 h) = some ps → RelDs X.K X.mg r H ds vs → Vals vs us → PySem.W.EachIs (fun u d => ∃ as, Reads s.heap u d as) us ps
  | [], ps, _, _, e, .nil, .nil => by simp at e; subst e; exact .nil
  | d :: ds, ps, _, _, e, .cons a t, .cons c q => by
    rw [List.mapM_cons] at e
    cases e1 : toPy 60 h d with
    | none => rw [e1] at e; cases e
    | some p =>
      rw [e1] at e
      cases e2 : ds.mapM (toPy 60 h) with
      | none => rw [e2] at e; cases e
      | some ps' =>
        rw [e2] at e
        cases e
        exact .cons (Dp.reads I p _ _ (toPy_ok rp 60 d p _ e1 a) c) (reads_all I rp e2 t q)
theorem each_both {R S : Value → It3 → Prop} : ∀ {us : List Value} {bs : List It3}, PySem.W.EachIs R us bs → PySem.W.EachIs S us bs → PySem.W.EachIs (fun u b => R u b ∧ S u b) us bs
  | _, _, .nil, .nil => .nil
  | _, _, .cons a t, .cons b q => .cons ⟨a, b⟩ (each_both t q)
theorem each_p {f : It3 → PyData} {R : Value → PyData → Prop} : ∀ {us : List Value} {bs : List It3}, PySem.W.EachIs R us (bs.map f) → PySem.W.EachIs (fun u b => R u (f b)) us bs
  | _, [], .nil => .nil
  | _, _ :: _, .cons a t => .cons a (each_p t)
/-- sorted(x) -/
theorem call_srtG (hcalm : X.calm = true) (hu : X.A.units + 64 < cLine) : CallR X (.builtin "sorted") (rVs X.K X.mg srtG) := by
  intro pins s σ H xs us Q I rv ⟨r, ds, h, rp, rl, p⟩
  unfold srtG at p
  split at p
  · rename_i d
    obtain ⟨v, rfl, rd⟩ := one_of (ds := []) rl
    cases e1 : collG d h with
    | none => rw [e1] at p; exact p.elim
    | some xs =>
      rw [e1] at p
      dsimp only at p
      cases e2 : xs.mapM (toPy 60 h) with
      | none => rw [e2] at p; exact p.elim
      | some ps =>
        rw [e2] at p
        dsimp only at p
        by_cases hok : SrtOk ps
        · rw [if_pos hok] at p
          obtain ⟨hal, hsk, hdp, hln⟩ := hok
          cases rv with
          | cons rv1 rr =>
            cases rr
            refine Calls.call_function_entry PyProof.Rows.kind_sorted PyProof.Rows.plain_sorted PyProof.Rows.entry_sorted (PyProof.Rows.args_sorted1 _) ?_
            unfold Builtin.«sorted»
            refine wpAny_bind (m := checkCount "sorted" 1 1 _) (wpAny_pure ?_)
            refine wpAny_bind (collect_any (A := X.A.in1) (I.ok.hd hcalm) I rp rd rv1 e1 fun us vs h' tk I1 hk rls rvs hz => ?_)
            refine wpAny_bind (wpAny_newList ?_ hz)
            have hoL : (h'.push (seqObj "list" us.toArray 0)).get? h'.objs.size = some (seqObj "list" us.toArray 0) := Heap.get?_push_size _ rfl
            have I2 : Inv X pins σ (upd H h'.objs.size (.lst vs)) { s with heap := h'.push (seqObj "list" us.toArray 0), toks := tk } := I1.laid (t' := tk) (fun b u q => Heap.get?_push_of_some _ q) (Nat.le_refl _) ⟨by rw [rvs.length]; exact hz, us, 0, rvs, hoL⟩
            have hn : H h'.objs.size = none := I1.hok.fresh (Nat.le_refl _)
            have hl2 : us.length = xs.length := by rw [← rvs.length, rls.length]
            have lp := mapM_len e2
            have rdx := reads_all (I.kept (h' := h') (t' := tk) hk) rp e2 rls rvs
            have rdy : PySem.W.EachIs (fun u d => ∃ as, Reads (PySem.W.sortingHeap (h'.push (seqObj "list" us.toArray 0)) h'.objs.size us) u d as) us ps := rdx.mono fun u d ⟨as, q⟩ => ⟨as, PyProof.Rows.Reads.keeps (fun b o z => PySem.W.sortingHeap_old (Nat.ne_of_lt (Heap.lt_size z)) (Heap.get?_push_of_some _ z)) q⟩
            have S := PySem.W.SortsAt.data (prog := X.prog) (w := X.w) (A := X.A.in1.in1) (s := { s with heap := PySem.W.sortingHeap (h'.push (seqObj "list" us.toArray 0)) h'.objs.size us, toks := tk }) rdy hal hsk fun d hd => by
              have := hdp d hd
              show X.A.units + 1 + 1 + d.depth < cLine
              omega
            show wpAny _ _ _ _ _ { s with heap := h'.push (seqObj "list" us.toArray 0), toks := tk }
            refine wpAny_bind (wpAny_holding (wpAny_call_entry PyProof.Rows.slot_list_sort ⟨_, hoL, rfl⟩ PyProof.Rows.entry_list_sort
              (PySem.W.list_sort_vals (s := { s with heap := h'.push (seqObj "list" us.toArray 0), toks := tk }) hoL S hz ⟨_, rfl, ?_⟩) (PyProof.Rows.args_list_sort _)))
            -- what came out
            have eb := zip3_is (us := us) lp rvs rls
            have eps := zip3_p (vs := vs) lp (by rw [← rls.length, lp])
            have hout := PySem.W.sortVals_data (enc := fun b : It3 => b.2.1) false eb (each_p (f := fun b : It3 => b.2.1) (R := fun u d => ∃ as, Reads (PySem.W.sortingHeap (h'.push (seqObj "list" us.toArray 0)) h'.objs.size us) u d as) (by rw [eps]; exact rdy)) (by rw [eps]; exact hal)
            rw [eps] at hout
            obtain ⟨ov, od⟩ := each_vals hout
            rw [srt_map lp (by rw [← rls.length, lp])] at od
            obtain ⟨e', he'⟩ := PyProof.Rows.sortedHeap_at (vs := us) (out := (PySem.W.sortVals (PySem.W.dataKind (PySem.W.sortingHeap (h'.push (seqObj "list" us.toArray 0)) h'.objs.size us) ps) false us us).toArray) hoL
            have olen : (((zip3 xs ps vs).mergeSort (PySem.W.dataLe false fun b => b.2.1)).map fun b => b.2.2).length ≤ sizeLine := by
              have : (zip3 xs ps vs).length = ps.length := by have z := congrArg List.length eps; rw [List.length_map] at z; exact z
              rw [List.length_map, List.length_mergeSort, this]
              exact line_of hln
            refine wpAny_pure ⟨_, rfl, .ref h'.objs.size, upd (upd H h'.objs.size (.lst vs)) h'.objs.size (.lst (((zip3 xs ps vs).mergeSort (PySem.W.dataLe false fun b => b.2.1)).map fun b => b.2.2)), ?_, rfl, ?_⟩
            · refine I2.write (x := h'.objs.size) (e := h'.objs.size) (t' := tk) (by rw [upd_same]; exact True.intro) (.inl rfl) (fun b u hb q => ?_) ⟨_, he'⟩ ⟨olen, _, e', ov, he'⟩
              rw [PyProof.Rows.sortedHeap_old hb (Heap.lt_size q)]
              exact q
            · rw [upd_upd]
              exact p.lst rp od hn
        · rw [if_neg hok] at p; exact p.elim
  · exact p.elim

/-- the def's call within built-ins -/
theorem run_in {k : Nat} {f : Addr} {fd : FuncData} {ps : List Str} {m : List D → HP → R D} {pins : List (Addr × Obj)} {s : Shared} {σ : L2.St} {Q : Value → Shared → Prop} {E : Value → Shared → Prop} {A : Around} {d : D} {v : V} {u : Value} {d2 : D} {h2 : HP}
    (F : FnOk X.prog X.w X.K X.mg X.base (L2.CX X.prog X.w) k f fd ps (spM X.K X.mg 1 m)) (hA : Env0 X.prog X.w X.K X.mg X.base A X.stack s H) (hr : Room k A) (hb : Binds X.K fd ps []) (hp : ps.length = 1) (I : Inv X pins σ H s) (rp : Rep X.K X.mg r h H) (rl : RelD X.K X.mg r H d v) (rv : RelV v u)
    (e : m [d] h = .ok d2 h2) (hQ : ∀ r2 v2 u2 H2 s2, Inv X pins σ H2 s2 → Ext r r2 → Keep H H2 → Rep X.K X.mg r2 h2 H2 → RelD X.K X.mg r2 H2 d2 v2 → RelV v2 u2 → Q u2 s2) : wpAny (model X.prog X.w) A (call (.ref f) [u]) Q E s := by
  have hl : ([u] : List Value).length = ps.length := by rw [hp]; rfl
  refine wpAny_call (codeAny_mono (F.run A X.stack s H ⟨[u], []⟩ [u] [v] (fun v2 H2 => ∃ r2, Ext r r2 ∧ Keep H H2 ∧ Rep X.K X.mg r2 h2 H2 ∧ RelD X.K X.mg r2 H2 d2 v2) (fun _ _ _ => False) hr hA (by simpa using hb s [u] I.kIn (by simpa using hl)) (.cons rv .nil) ⟨r, [d], h, rp, .cons rl .nil, rfl, by rw [e]; exact fun r2 v2 H2 x k2 rp2 rl2 => ⟨r2, x, k2, rp2, rl2⟩⟩) fun z s' hq => ?_)
  cases z with
  | error ex =>
    obtain ⟨_, _, _, _, _, _, _, _, _, _, _, _, z⟩ := hq
    exact z.elim
  | ok fl =>
    cases fl with
    | ret u2 =>
      obtain ⟨v2, H2, I2, rv2, r2, x, k2, rp2, rl2⟩ := I.after hq
      exact hQ r2 v2 u2 H2 s' I2 x k2 rp2 rl2 rv2
    | next => exact False.elim hq
    | brk => exact False.elim hq
    | cont => exact False.elim hq
theorem runKeys_cons {m : List D → HP → R D} {d : D} {ds ks : List D} {h h3 : HP} (e : runKeys m (d :: ds) h = .ok ks h3) : ∃ k h2 ks', m [d] h = .ok k h2 ∧ runKeys m ds h2 = .ok ks' h3 ∧ ks = k :: ks' := by
  unfold runKeys at e
  cases e1 : m [d] h with
  | ok k h2 =>
    rw [e1] at e
    dsimp only at e
    cases e2 : runKeys m ds h2 with
    | ok ks' h4 => rw [e2] at e; cases e; exact ⟨k, h2, ks', rfl, e2, rfl⟩
    | exc c fs h4 => rw [e2] at e; cases e
    | bad => rw [e2] at e; cases e
  | exc c fs h2 => rw [e1] at e; cases e
  | bad => rw [e1] at e; cases e
theorem runKeys_len {m : List D → HP → R D} : ∀ {ds ks : List D} {h h3 : HP}, runKeys m ds h = .ok ks h3 → ks.length = ds.length
  | [], _, _, _, e => by cases e; rfl
  | d :: ds, ks, h, h3, e => by
    obtain ⟨k, h2, ks', _, e2, rfl⟩ := runKeys_cons e
    simp [runKeys_len e2]
end
end PM
end
section
set_option Elab.async false
set_option linter.all false
set_option maxRecDepth 100000
set_option maxHeartbeats 2000000
namespace PM
open PySem PySem.Spec PyProof.Rows L2

section
variable {X : Cx} {K : PySem.W.Frag} {mg : Str → Option Value} {r : List Addr} {H : Hp} {h : HP} {W : WX} {e : Expr} {es : List Expr} {t : MA} {pos : Pos} {a : Addr}
mutual
theorem RelD.ov {u : HO} (nt : ∀ xs, H a ≠ some (.tup xs) ∧ ∀ o, H a ≠ some (.frz o (.tup xs))) {d : D} {v : V} (q : RelD K mg r H d v) : RelD K mg r (upd H a u) d v := match q with
  | .non => .non
  | .bl b => .bl b
  | .int i => .int i
  | .str x => .str x
  | .tup s t => .tup (by rw [upd_ne (fun z => by subst z; exact (nt _).1 s)]; exact s) (RelDs.ov nt t)
  | .stp s t => .stp (by
      rcases s with ⟨o, e, d⟩ | s
      · exact .inl ⟨o, by rw [upd_ne (fun z => by subst z; exact (nt _).2 o e)]; exact e, d⟩
      · exact .inr s) (RelDs.ov nt t)
  | .ref q => .ref q
  | .fn q => .fn q
  | .ty n => .ty n
theorem RelDs.ov {u : HO} (nt : ∀ xs, H a ≠ some (.tup xs) ∧ ∀ o, H a ≠ some (.frz o (.tup xs))) {d : List D} {v : List V} (q : RelDs K mg r H d v) : RelDs K mg r (upd H a u) d v := match q with
  | .nil => .nil
  | .cons a b => .cons (RelD.ov nt a) (RelDs.ov nt b)
end
theorem RelP.ov {κ : Type} {u : HO} (nt : ∀ xs, H a ≠ some (.tup xs) ∧ ∀ o, H a ≠ some (.frz o (.tup xs))) : ∀ {ds : List (κ × D)} {vs : List (κ × V)}, RelP K mg r H ds vs → RelP K mg r (upd H a u) ds vs
  | _, _, .nil => .nil
  | _, _, .cons q t => .cons ⟨q.1, q.2.ov nt⟩ (RelP.ov nt t)
/-- a thing that no plain object stands for -/
def tx : HO := .ext fun _ => True
theorem RepO.ov {o : Ob} {b : Addr} {od : Obj} {u : HO} (ha : H a = Option.some (.frz od tx)) (q : RepO K mg r H o b) : RepO K mg r (upd H a u) o b := by
  have nt : ∀ xs, H a ≠ Option.some (.tup xs) ∧ ∀ o, H a ≠ Option.some (.frz o (.tup xs)) := fun xs => ⟨fun z => (by rw [ha] at z; cases z), fun o z => (by rw [ha] at z; cases z)⟩
  have ne : ∀ {x : HO}, H b = Option.some x → x ≠ .frz od tx → b ≠ a := fun {x} e hx z => by subst z; rw [ha] at e; exact hx (Option.some.inj e).symm
  cases o with
  | lst xs => obtain ⟨vs, q, t⟩ := q; exact ⟨vs, by rw [upd_ne (ne q (fun z => nomatch z))]; exact q, t.ov nt⟩
  | dic kvs => obtain ⟨vs, q, t⟩ := q; exact ⟨vs, by rw [upd_ne (ne q (fun z => nomatch z))]; exact q, t.ov nt⟩
  | rdl xs =>
    obtain ⟨vs, q, t⟩ := q
    refine ⟨vs, ?_, t.ov nt⟩
    rcases q with ⟨ob, q⟩ | q
    · exact .inl ⟨ob, by rw [upd_ne (ne q (fun z => by injection z with z1 z2; cases z2))]; exact q⟩
    · exact .inr q
  | ins c fs => obtain ⟨C, dx, vs, q1, q, t⟩ := q; exact ⟨C, dx, vs, q1, by rw [upd_ne (ne q (fun z => nomatch z))]; exact q, t.ov nt⟩
  | dit kvs => obtain ⟨vs, q, t⟩ := q; exact ⟨vs, by rw [upd_ne (ne q (fun z => nomatch z))]; exact q, t.ov nt⟩
  | rdd kvs => obtain ⟨od, vs, q, t⟩ := q; exact ⟨od, vs, by rw [upd_ne (ne q (fun z => by injection z with z1 z2; cases z2))]; exact q, t.ov nt⟩
  | rdt kvs => obtain ⟨od, vs, q, t⟩ := q; exact ⟨od, vs, by rw [upd_ne (ne q (fun z => by injection z with z1 z2; cases z2))]; exact q, t.ov nt⟩
theorem RelD.ext {r' : List Addr} (x : Ext r r') {d : D} {v : V} (q : RelD K mg r H d v) : RelD K mg r' H d v := q.mono x (Keep.refl H)
theorem RepO.ext {r' : List Addr} (x : Ext r r') {o : Ob} {b : Addr} (q : RepO K mg r H o b) : RepO K mg r' H o b := RepO.mono x (Keep.refl H) (fun _ => rfl) q
theorem RepO.at_tx {o : Ob} {b : Addr} {od : Obj} (hb : H b = Option.some (.frz od tx)) (m : uq o = true) (q : RepO K mg r H o b) : False := by
  cases o with
  | lst xs => obtain ⟨vs, q, t⟩ := q; rw [hb] at q; cases q
  | dic kvs => obtain ⟨vs, q, t⟩ := q; rw [hb] at q; cases q
  | rdl xs => cases m
  | ins c fs => obtain ⟨C, dx, vs, q1, q, t⟩ := q; rw [hb] at q; cases q
  | dit kvs => obtain ⟨vs, q, t⟩ := q; rw [hb] at q; cases q
  | rdd kvs => obtain ⟨od, vs, q, t⟩ := q; rw [hb] at q; cases q
  | rdt kvs => obtain ⟨od, vs, q, t⟩ := q; rw [hb] at q; cases q
/-- that thing becomes an object of the plain heap -/
theorem Rep.adopt {o : Ob} {od : Obj} {u : HO} (R : Rep K mg r h H) (ha : H a = some (.frz od tx)) (q : RepO K mg (r ++ [a]) (upd H a u) o a) : Rep K mg (r ++ [a]) (h ++ [o]) (upd H a u) := by
  have no : ∀ {i : Nat} {o' : Ob}, h[i]? = some o' → r[i]? = some a → uq o' = true → False := fun e1 e2 m => RepO.at_tx ha m (R.obs _ _ _ e1 e2)
  refine ⟨by simp [R.len], fun i o' b e1 e2 => ?_, fun i j b oi oj e1 e2 m1 m2 e3 e4 => ?_⟩
  · rcases get_snoc e1 with ⟨l1, e1⟩ | ⟨l1, e1⟩
    · rcases get_snoc e2 with ⟨l2, e2⟩ | ⟨l2, e2⟩
      · exact ((R.obs i o' b e1 e2).ov ha).ext (Ext.one r a)
      · rw [R.len] at l2; omega
    · rcases get_snoc e2 with ⟨l2, e2⟩ | ⟨l2, e2⟩
      · rw [R.len] at l2; omega
      · subst e1 e2; exact q
  · rcases get_snoc e1 with ⟨l1, e1⟩ | ⟨l1, e1⟩
    · rcases get_snoc e3 with ⟨_, e3⟩ | ⟨l3, _⟩
      · rcases get_snoc e2 with ⟨l2, e2⟩ | ⟨l2, e2⟩
        · rcases get_snoc e4 with ⟨_, e4⟩ | ⟨l4, _⟩
          · exact R.inj i j b oi oj e1 e2 m1 m2 e3 e4
          · rw [R.len] at l4; omega
        · rcases get_snoc e4 with ⟨l4, _⟩ | ⟨_, e4⟩
          · rw [R.len] at l4; omega
          · subst e4; exact (no e1 e3 m1).elim
      · rw [R.len] at l3; omega
    · rcases get_snoc e3 with ⟨l3, _⟩ | ⟨_, e3⟩
      · rw [R.len] at l3; omega
      · rcases get_snoc e2 with ⟨l2, e2⟩ | ⟨l2, e2⟩
        · rcases get_snoc e4 with ⟨_, e4⟩ | ⟨l4, _⟩
          · subst e3; exact (no e2 e4 m2).elim
          · rw [R.len] at l4; omega
        · omega
theorem Keep.adopt {H0 : Hp} {u x : HO} (hn : H0 a = none) (k : Keep (upd H0 a x) H) : Keep H0 (upd H a u) := by
  have g : ∀ b o, H0 b = some o → b ≠ a := fun b o e z => by subst z; rw [hn] at e; cases e
  have f : ∀ b o, H0 b = some o → (upd H0 a x) b = some o := fun b o e => by rw [upd_ne (g b o e)]; exact e
  exact ⟨fun b xs e => by rw [upd_ne (g b _ e)]; exact k.tup b xs (f b _ e), fun b ob v e => by rw [upd_ne (g b _ e)]; exact k.frz b ob v (f b _ e), fun b fs e => by rw [upd_ne (g b _ e)]; exact k.xd b fs (f b _ e)⟩
theorem tx_ok {P : Program} {w : World} {s : Shared} {o : Obj} (e : s.heap.get? a = some o) : ObjOk P w H s.heap a tx := ⟨trivial, ⟨o, e⟩, fun _ _ _ _ => trivial⟩
theorem rel_snoc {xs : List D} {vs : List V} {us : List Value} {d : D} {v : V} {u : Value} (q1 : RelDs K mg r H xs vs) (q2 : Vals vs us) (q3 : RelD K mg r H d v) (q4 : RelV v u) : RelDs K mg r H (xs ++ [d]) (vs ++ [v]) ∧ Vals (vs ++ [v]) (us ++ [u]) := ⟨q1.append (.cons q3 .nil), q2.append (.cons q4 .nil)⟩
theorem runKeys_take {m : List D → HP → R D} : ∀ {ds ks : List D} {h h3 : HP}, runKeys m ds h = .ok ks h3 → ∀ (i : Nat) (d : D), ds[i]? = some d → ∃ h1 k h2, runKeys m (ds.take i) h = .ok (ks.take i) h1 ∧ m [d] h1 = .ok k h2 ∧ ks[i]? = some k ∧ runKeys m (ds.take (i + 1)) h = .ok (ks.take (i + 1)) h2
  | [], _, _, _, _, i, d, e => by simp at e
  | x :: ds, ks, h, h3, e, i, d, hd => by
    obtain ⟨k, h2, ks', e1, e2, rfl⟩ := runKeys_cons e
    cases i with
    | zero =>
      cases hd
      refine ⟨h, k, h2, rfl, e1, rfl, ?_⟩
      show runKeys m [x] h = _
      unfold runKeys
      rw [e1]; rfl
    | succ i =>
      obtain ⟨h1, k1, h4, z1, z2, z3, z4⟩ := runKeys_take e2 i d (by simpa using hd)
      refine ⟨h1, k1, h4, ?_, z2, by simpa using z3, ?_⟩
      · show runKeys m (x :: ds.take i) h = _
        unfold runKeys; rw [e1]; dsimp only; rw [z1]; rfl
      · show runKeys m (x :: ds.take (i + 1)) h = _
        unfold runKeys; rw [e1]; dsimp only; rw [z4]; rfl
end
end PM
end
section
set_option Elab.async false
set_option linter.all false
set_option maxRecDepth 100000
set_option maxHeartbeats 4000000
namespace PM
open PySem PySem.Spec PyProof.Rows L2

section
variable {X : Cx} {r : List Addr} {H : Hp} {h : HP} {W : WX} {e : Expr} {es : List Expr} {t : MA} {pos : Pos} {a : Addr}
/-- a turn of the keys' loop -/
def KInv (X : Cx) (pins : List (Addr × Obj)) (σ : L2.St) (r : List Addr) (Hl : Hp) (m : List D → HP → R D) (xs ks : List D) (h : HP) (kS : Addr) (i : Nat) (s' : Shared) : Prop :=
  ∃ r' H' h1 kA ep vk, Inv X pins σ H' s' ∧ Ext r r' ∧ Keep Hl H' ∧ Rep X.K X.mg r' h1 H' ∧ runKeys m (xs.take i) h = .ok (ks.take i) h1 ∧ RelDs X.K X.mg r' H' (ks.take i) vk ∧ Vals vk kA.toList ∧ s'.heap.get? kS = some (seqObj "list" kA ep) ∧ FpOk X pins H' kS
theorem key_tree {k : Nat} {f : Addr} {fd : FuncData} {ps : List Str} {m : List D → HP → R D} {pins : List (Addr × Obj)} {s : Shared} {σ : L2.St} {P : PySem.Fin → Shared → Prop} {E : Value → Shared → Prop} {xs ks : List D} {kd : List PyData} {vs : List V} {us : List Value} {h3 : HP} {n : Nat}
    (hu : X.A.units + 64 < cLine) (F : FnOk X.prog X.w X.K X.mg X.base (L2.CX X.prog X.w) k f fd ps (spM X.K X.mg 1 m)) (hr : Room k X.A.in1.in1) (hb : Binds X.K fd ps []) (hp : ps.length = 1)
    (ek : runKeys m xs h = .ok ks h3) (ed : ks.mapM (toPy 60 h3) = some kd) (ok : SrtOk kd) (I : Inv X pins σ (upd H a tx) s) (hn : H a = none) (ho : s.heap.get? a = some (seqObj "list" us.toArray n)) (rp : Rep X.K X.mg r h H) (rls : RelDs X.K X.mg r H xs vs) (rvs : Vals vs us) (hz : us.length ≤ sizeLine)
    (hQ : ∀ r2 H2 ov s2, Ext r r2 → Keep H (upd H2 a (.lst ov)) → Rep X.K X.mg (r2 ++ [a]) (h3 ++ [.lst (srt xs kd)]) (upd H2 a (.lst ov)) → Inv X pins σ (upd H2 a (.lst ov)) s2 → P (.done (.ret .none)) s2) :
    wpAny (model X.prog X.w) X.A.in1.in1 (ksk_tree a (.ref f) false) P E s := by
  have ha : a < s.heap.objs.size := Heap.lt_size ho
  obtain ⟨e1, ho1⟩ : ∃ e1, (s.heap.update a (Obj.mapSeq fun _ => (#[] : Array Value))).get? a = some (seqObj "list" #[] e1) := ⟨_, get?_update_seq ho fun _ => #[]⟩
  have lxs : xs.length = us.length := by rw [rls.length, rvs.length]
  unfold ksk_tree
  refine wpAny_bind (listItems_at ho rfl ?_)
  refine wpAny_bind (listUpdate_at ho rfl ?_ (by rw [List.size_toArray]; exact hz) (Nat.zero_le _))
  refine wpAny_bind (seqEpoch_at ho1 rfl ?_)
  refine wpAny_bind (wpAny_newTuple ?_ (by show us.length ≤ _; exact hz))
  refine wpAny_bind (wpAny_newList ?_ (Nat.zero_le _))
  refine wpAny_holding ?_
  -- the state that the keys begin in
  have I1 : Inv X pins σ (upd H a tx) { s with heap := s.heap.update a (Obj.mapSeq fun _ => (#[] : Array Value)), toks := s.toks } := by
    have := I.write (x := a) (e := a) (o := tx) (t' := s.toks) (h' := s.heap.update a (Obj.mapSeq fun _ => (#[] : Array Value))) (by rw [upd_same]; exact True.intro) (.inl rfl) (fun b u hb q => by rw [Heap.get?_update_ne _ _ _ _ hb]; exact q) ⟨_, ho1⟩ ⟨trivial, ⟨_, ho1⟩, fun _ _ _ _ => trivial⟩
    rw [upd_upd] at this; exact this
  have hkS : ((s.heap.update a (Obj.mapSeq fun _ => (#[] : Array Value))).push (seqObj "tuple" us.toArray 0)).objs.size = s.heap.objs.size + 1 := by rw [size_push', Heap.size_update]
  obtain ⟨kS, hkd⟩ : ∃ kS, kS = ((s.heap.update a (Obj.mapSeq fun _ => (#[] : Array Value))).push (seqObj "tuple" us.toArray 0)).objs.size := ⟨_, rfl⟩
  obtain ⟨g0, hg⟩ : ∃ g0, g0 = ((s.heap.update a (Obj.mapSeq fun _ => (#[] : Array Value))).push (seqObj "tuple" us.toArray 0)).push (seqObj "list" #[] 0) := ⟨_, rfl⟩
  have keepG : ∀ b o, (s.heap.update a (Obj.mapSeq fun _ => (#[] : Array Value))).get? b = some o → g0.get? b = some o := fun b o q => by rw [hg]; exact Heap.get?_push_of_some _ (Heap.get?_push_of_some _ q)
  have I2 : Inv X pins σ (upd H a tx) { s with heap := g0, toks := s.toks } := I1.kept keepG
  have nk : g0.get? kS = some (seqObj "list" #[] 0) := by rw [hg, hkd]; exact Heap.get?_push_size _ rfl
  have na : g0.get? a = some (seqObj "list" #[] e1) := keepG _ _ ho1
  have hka : kS ≠ a := by rw [hkd, hkS]; exact Nat.ne_of_gt (Nat.lt_succ_of_lt ha)
  have fk : FpOk X pins (upd H a tx) kS := by
    have hle : (s.heap.update a (Obj.mapSeq fun _ => (#[] : Array Value))).objs.size ≤ kS := by rw [hkd, hkS, Heap.size_update]; exact Nat.le_succ _
    exact I1.fpOk hle (I1.hok.fresh hle)
  obtain ⟨od, I3⟩ := I2.lock (d := a) (u := tx) upd_same True.intro
  rw [upd_upd] at I3
  have hod : od = seqObj "list" #[] e1 := by
    obtain ⟨z, _⟩ := I3.hok a (.frz od tx) upd_same
    have z : g0.get? a = some od := z
    rw [na] at z; exact (Option.some.inj z).symm
  subst hod
  have rp3 : Rep X.K X.mg r h (upd H a (.frz (seqObj "list" #[] e1) tx)) := rp.fresh hn
  have kp3 : Keep H (upd H a (.frz (seqObj "list" #[] e1) tx)) := Keep.new hn
  have rls3 := rls.mono (Ext.refl r) kp3
  have fk3 : FpOk X pins (upd H a (.frz (seqObj "list" #[] e1) tx)) kS := ⟨by have z := fk.1; rw [upd_ne hka] at z ⊢; exact z, fk.2⟩
  show wpAny (model X.prog X.w) X.A.in1.in1 (ksk_rest a (.ref f) false us.toArray e1 (.ref _)) P E { s with heap := ((s.heap.update a (Obj.mapSeq fun _ => (#[] : Array Value))).push (seqObj "tuple" us.toArray 0)).push (seqObj "list" #[] 0) }
  rw [← hkd, ← hg]
  have hla : upd H a (.frz (seqObj "list" #[] e1) tx) a = some (.frz (seqObj "list" #[] e1) tx) := upd_same
  have hadopt : ∀ {H2 : Hp} {u : HO}, Keep (upd H a (.frz (seqObj "list" #[] e1) tx)) H2 → Keep H (upd H2 a u) := fun q => Keep.adopt hn q
  revert I3 rp3 kp3 rls3 fk3 hla hadopt
  generalize upd H a (.frz (seqObj "list" #[] e1) tx) = Hl
  intro I3 rp3 kp3 rls3 fk3 hla hadopt
  unfold ksk_rest
  refine wpAny_bind (wpAny_rule ?_)
  rw [List.forIn_toArray]
  refine wpAny_bind (ksk_fold (KInv X pins σ r Hl m xs ks h kS) us 0 _ ⟨r, Hl, h, #[], 0, [], I3, Ext.refl r, Keep.refl Hl, rp3, rfl, .nil, .nil, nk, fk3⟩ ?step ?done)
  case step =>
    rintro j u s' hx ⟨r', H', h1, kA, ep, vk, J, x1, k1, rp1, ek1, rk, vk1, nk1, fk1⟩
    rw [Nat.zero_add] at ek1 rk ⊢
    have hj : j < xs.length := by rw [lxs]; exact (List.getElem?_eq_some_iff.mp hx).1
    obtain ⟨v, hv, rd⟩ := (rls3.mono x1 k1).get (List.getElem?_eq_getElem hj)
    obtain ⟨u2, hu2, ru⟩ := rvs.get hv
    rw [hx] at hu2
    cases hu2
    obtain ⟨g1, kk, g2, z1, z2, z3, z4⟩ := runKeys_take ek j _ (List.getElem?_eq_getElem hj)
    rw [z1] at ek1
    cases ek1
    have J' := J.pinned (fp := [kS]) (fun b hb => by obtain rfl : b = kS := by simpa using hb
                                                     exact fk1) (fun b hb => by
      obtain rfl : b = kS := by simpa using hb
      exact ⟨_, nk1, fun v z => nomatch z⟩)
    have lk : kA.size ≤ us.length := by
      have q1 := vk1.length
      have q2 := rk.length
      have q3 : kA.toList.length = kA.size := Array.length_toList
      rw [List.length_take] at q2
      rw [← q3, ← q1, ← q2, ← lxs]
      exact Nat.le_trans (Nat.min_le_left _ _) (Nat.le_of_lt hj)
    refine wpAny_bind (wpAny_attempt (run_in F J'.env0.in1.in1 hr hb hp J' rp1 rd ru z2 fun r2 v2 w2 H2 s2 J2 x2 k2 rp2 rd2 rw2 => ?_))
    obtain ⟨nk2, nS, _⟩ := J2.pin (kS, seqObj "list" kA ep) (List.mem_append_right _ (List.mem_append_right _ (mem_pinsAt (by simp) nk1)))
    have J3 := J2.unpinned (pins := pins)
    obtain ⟨c2, hc2⟩ : ∃ c2, (s2.heap.update kS (Obj.mapSeq (·.push w2))).get? kS = some (seqObj "list" (kA.push w2) c2) := ⟨_, get?_update_seq nk2 (·.push w2)⟩
    refine wpAny_bind (listUpdate_at nk2 rfl ?_ (Nat.le_trans lk hz) (Nat.le_trans (Nat.le_of_eq (Array.size_push ..)) (Nat.succ_le_succ (Nat.le_trans lk hz))))
    have fk2 : FpOk X pins H2 kS := ⟨nS, fk1.2⟩
    have J4 : Inv X pins σ H2 { s2 with heap := s2.heap.update kS (Obj.mapSeq (·.push w2)), toks := s2.toks } := J3.turnedL (ch := [kS]) (fun b o hb q => by rw [Heap.get?_update_ne _ _ _ _ (by simpa using hb)]; exact q) fun b hb => by
      obtain rfl : b = kS := by simpa using hb
      exact fk2
    have ekk : ks.take (j + 1) = ks.take j ++ [kk] := by rw [List.take_add_one, z3]; simp
    have eka : (kA.push w2).toList = kA.toList ++ [w2] := by simp
    obtain ⟨q1, q2⟩ := rel_snoc (rk.mono x2 k2) vk1 rd2 rw2
    exact wpAny_pure ⟨rfl, r2, H2, g2, kA.push w2, c2, vk ++ [v2], J4, x1.trans x2, k1.trans k2, rp2, z4, by rw [ekk]; exact q1, by rw [eka]; exact q2, hc2, fk2⟩
  case done =>
    rintro s' ⟨r', H', h1, kA, ep, vk, J, x1, k1, rp1, ek1, rk, vk1, nk1, fk1⟩
    rw [Nat.zero_add, ← lxs, List.take_length, ek] at ek1
    injection ek1 with ek2 ek3
    subst ek3
    rw [Nat.zero_add, ← lxs, ← runKeys_len ek, List.take_length] at rk
    obtain ⟨hal, hsk, hdp, hln⟩ := ok
    have rdk := reads_all J rp1 ed rk vk1
    have lkd := mapM_len ed
    have lks := runKeys_len ek
    have lkA : kA.toList.length = us.length := by rw [← vk1.length, ← rk.length, lks, lxs]
    have hfa : H' a = some (.frz (seqObj "list" #[] e1) tx) := k1.frz _ _ _ hla
    have na1 : s'.heap.get? a = some (seqObj "list" #[] e1) := (J.hok a _ hfa).1
    refine wpAny_bind (listItems_at nk1 rfl ?_)
    -- the heap without the keys' list
    obtain ⟨hH, hH1, hH2⟩ := L2.restrict s'.heap fun b => decide (b ≠ kS)
    have hHk : hH.get? kS = none := hH2 kS (by simp)
    have kb : PySem.W.KeepsBut a hH s'.heap := fun b o hb q => by
      by_cases hbk : b = kS
      · subst hbk; rw [hHk] at q; cases q
      · rw [← hH1 b (by simpa using hbk)]; exact q
    have S := PySem.W.SortsAt.data (prog := X.prog) (w := X.w) (A := X.A.in1.in1) (s := s') rdk hal hsk fun d hd => by
      have := hdp d hd
      show X.A.units + 1 + 1 + d.depth < cLine
      omega
    refine PySem.W.keyH_end (h₁ := hH) kb hHk nk1 na1 hka S (by rw [← Array.length_toList]; exact lkA) hz fun h' tk c kb2 na2 => ?_
    -- the list, sorted
    have lp : xs.length = kd.length := by rw [← lks, lkd]
    have eb := zip3_is (us := us) lp rvs (rls3.mono x1 k1)
    have eps := zip3_p (vs := vs) lp (by rw [← rls.length, lp])
    have hout := PySem.W.keyedOut_each (bs := zip3 xs kd vs) (fun b : It3 => b.2.1) (out := PySem.W.sortVals (PySem.W.dataKind s'.heap kd) false kA.toList us) ⟨s'.heap, kA.toList, by rw [eps]; exact hal, by rw [eps], by rw [eps]; exact rdk⟩ eb
    obtain ⟨ov, od⟩ := each_vals hout
    rw [srt_map lp (by rw [← rls.length, lp])] at od
    have olen : (((zip3 xs kd vs).mergeSort (PySem.W.dataLe false fun b => b.2.1)).map fun b => b.2.2).length ≤ sizeLine := by
      have : (zip3 xs kd vs).length = kd.length := by have z := congrArg List.length eps; rw [List.length_map] at z; exact z
      rw [List.length_map, List.length_mergeSort, this]
      exact line_of hln
    -- the heaps' changes: first the keys' list, then the list
    have old : ∀ b o, b ≠ kS → b ≠ a → s'.heap.get? b = some o → h'.get? b = some o := fun b o h1 h2 q => kb2 b o h2 (by rw [hH1 b (by simpa using h1)]; exact q)
    have na3 : (h'.update a fun _ => seqObj "list" #[] e1).get? a = some (seqObj "list" #[] e1) := (Heap.get?_eq_some _ _ _).mpr ⟨by rw [Heap.objs_update_self, ((Heap.get?_eq_some _ _ _).mp na2).1]; rfl, rfl⟩
    have J1 : Inv X pins σ H' { s' with heap := h'.update a fun _ => seqObj "list" #[] e1, toks := tk } := J.turnedL (ch := [kS]) (fun b o hb q => by
      by_cases hba : b = a
      · subst hba
        rw [na1] at q; cases q
        exact na3
      · rw [Heap.get?_update_ne _ _ _ _ hba]
        exact old b o (by simpa using hb) hba q) fun b hb => by
      obtain rfl : b = kS := by simpa using hb
      exact fk1
    have J2 := J1.unlock hfa (fun o' u' z => by
      have := J1.base.frzs a o' u' z
      rw [hfa] at this
      cases this
      have z2 := I.base.frzs a _ _ z
      rw [upd_same] at z2
      cases z2)
    have J3 : Inv X pins σ (upd (upd H' a tx) a (.lst (((zip3 xs kd vs).mergeSort (PySem.W.dataLe false fun b => b.2.1)).map fun b => b.2.2))) { s' with heap := h', toks := tk } := J2.write (x := a) (e := a) (by rw [upd_same]; exact True.intro) (.inl rfl) (fun b u hb q => by
      have q : (h'.update a fun _ => seqObj "list" #[] e1).get? b = some u := q
      rw [Heap.get?_update_ne _ _ _ _ hb] at q; exact q) ⟨_, na2⟩ ⟨olen, _, c, ov, na2⟩
    rw [upd_upd] at J3
    have nt : ∀ xs, H' a ≠ some (.tup xs) ∧ ∀ o, H' a ≠ some (.frz o (.tup xs)) := fun xs => ⟨fun z => (by rw [hfa] at z; cases z), fun o z => (by rw [hfa] at z; cases z)⟩
    exact hQ r' H' _ _ x1 (hadopt k1) (rp1.adopt hfa ⟨_, upd_same, (od.ov nt).mono (Ext.one r' a) (Keep.refl _)⟩) J3
/-- sorted(x, key=f), f a def of the module -/
noncomputable def mSrtK (m : List D → HP → R D) (t : MA) : ME := fun s h => (t s h).bind (srtK m)
def tSrtK (K : PySem.W.Frag) (mg : Str → Option Value) (f : Addr) (m : List D → HP → R D) : List V → List V → Hp → VK → Prop := fun vs zs H Q => zs = [.ref f] ∧ ∃ r ds h, Rep K mg r h H ∧ RelDs K mg r H ds vs ∧ match srtK m ds h with
  | .ok d h' => PostV K mg r H Q (some (d, h'))
  | _ => False
theorem call_srtK {k : Nat} {f : Addr} {fd : FuncData} {ps : List Str} {m : List D → HP → R D} (hcalm : X.calm = true) (hu : X.A.units + 64 < cLine) (F : FnOk X.prog X.w X.K X.mg X.base (L2.CX X.prog X.w) k f fd ps (spM X.K X.mg 1 m)) (hr : Room (k + 2) X.A) (hb : Binds X.K fd ps []) (hp : ps.length = 1) :
    CallRK X (.builtin "sorted") [Str.ofString "key"] (tSrtK X.K X.mg f m) := by
  intro pins s σ H vs zs us ws Q I rv rz ⟨ez, r, ds, h, rp, rl, p⟩
  subst ez
  obtain ⟨w1, rfl, rw1⟩ := vals1 rz
  obtain rfl : w1 = Value.ref f := rw1
  unfold srtK at p
  split at p
  · rename_i d' h' hz
    split at hz
    · rename_i d
      obtain ⟨v, rfl, rd⟩ := one_of (ds := []) rl
      cases e1 : collG d h with
      | none => rw [e1] at hz; cases hz
      | some xs =>
        rw [e1] at hz
        dsimp only at hz
        cases e2 : runKeys m xs h with
        | exc c fs h3 => rw [e2] at hz; cases hz
        | bad => rw [e2] at hz; cases hz
        | ok ks h3 =>
          rw [e2] at hz
          dsimp only at hz
          cases e3 : ks.mapM (toPy 60 h3) with
          | none => rw [e3] at hz; cases hz
          | some kd =>
            rw [e3] at hz
            dsimp only at hz
            by_cases hok : SrtOk kd
            · rw [if_pos hok] at hz
              cases hz
              cases rv with
              | cons rv1 rr =>
                cases rr
                refine call_function_entry_kw PyProof.Rows.kind_sorted PyProof.Rows.plain_sorted PyProof.Rows.entry_sorted (PyProof.Rows.ksk_s1 _ _) ?_
                unfold Builtin.«sorted»
                refine wpAny_bind (m := checkCount "sorted" 1 1 _) (wpAny_pure ?_)
                refine wpAny_bind (collect_any (A := X.A.in1) (I.ok.hd hcalm) I rp rd rv1 e1 fun us vs h' tk I1 hk rls rvs hz => ?_)
                refine wpAny_bind (wpAny_newList ?_ hz)
                have hoL : (h'.push (seqObj "list" us.toArray 0)).get? h'.objs.size = some (seqObj "list" us.toArray 0) := Heap.get?_push_size _ rfl
                have hn : H h'.objs.size = none := I1.hok.fresh (Nat.le_refl _)
                have I2 : Inv X pins σ (upd H h'.objs.size tx) { s with heap := h'.push (seqObj "list" us.toArray 0), toks := tk } := I1.laid (t' := tk) (fun b u q => Heap.get?_push_of_some _ q) (Nat.le_refl _) ⟨trivial, ⟨_, hoL⟩, fun _ _ _ _ => trivial⟩
                show wpAny _ _ _ _ _ { s with heap := h'.push (seqObj "list" us.toArray 0), toks := tk }
                refine wpAny_bind (wpAny_holding (wpAny_call_entry_kw PyProof.Rows.slot_list_sort ⟨_, hoL, rfl⟩ PyProof.Rows.entry_list_sort ?_ (PyProof.Rows.ksk_l1 _ _)))
                refine key_tree (s := { s with heap := h'.push (seqObj "list" us.toArray 0), toks := tk }) hu F (hr.in1.in1) hb hp e2 e3 hok I2 hn hoL rp rls rvs hz fun r2 H2 ov s2 x2 k2 rp2 J2 => ⟨_, rfl, ?_⟩
                refine wpAny_pure ⟨_, rfl, .ref h'.objs.size, _, J2, rfl, p (r2 ++ [h'.objs.size]) _ _ (x2.trans (Ext.one r2 _)) k2 rp2 (.ref ?_)⟩
                rw [List.getElem?_append_right (by
                  have := rp2.len
                  simp only [List.length_append, List.length_cons, List.length_nil] at this
                  omega)]
                have : h3.length - r2.length = 0 := by
                  have := rp2.len
                  simp only [List.length_append, List.length_cons, List.length_nil] at this
                  omega
                rw [this]; rfl
            · rw [if_neg hok] at hz; cases hz
    · cases hz
  · exact p.elim
theorem qe_srtK {k : Nat} {m : List D → HP → R D} {ma : ME} {fx : Str} {pp fp kp : Pos} {ps : List Str} (F : FnM X.prog X.w X.K X.mg X.base k fx ps m) (hr : Room (k + 2) X.A) (hp : ps.length = 1) (hcalm : X.calm = true) (hg : Gl X "sorted") (hm : X.mg "sorted" = none) (hgf : Gl X fx) (ha : QE X W e ma)
    (hdf : (fx == ("__debug__" : Str)) = false := by decide) (hks : (backToKw pos (keywordEach [⟨some "key", .Name fx fp, kp⟩] X.env)).filterMap (·.1) = [Str.ofString "key"] := by rfl)
    (hs : starEach [e] X.env = (false, eval e X.env) :: starEach [] X.env := by rfl) (he : backTo pos (starEach [e] X.env) = (false, eval e X.env) :: backTo pos (starEach [] X.env) := by rfl) (hpl : (backTo pos (starEach [e] X.env)).any (·.1) = false := by rfl) :
    QE X W (.Call (.Name "sorted" pp) [e] [⟨some "key", .Name fx fp, kp⟩] pos) (mSrtK m (mCons ma mNil)) := by
  obtain ⟨f, fd, gm, hk, b, F⟩ := F.ex
  have hu : X.A.units + 64 < cLine := hr.units
  refine (pe_callBK (call_srtK hcalm hu (by rw [hp] at F; exact F) hr b hp) hg hm (by decide +kernel) (qa_cons ha qa_nil hs) (pk_cons (pe_glob (v := .ref f) hgf gm rfl hdf) pk_nil) (by decide) (by decide) he hpl (hks := hks)).imp fun σ H Q q => ?_
  obtain ⟨r, s, h, rp, rs, p⟩ := tM.bind (rr1 := rDs) (m := mCons ma mNil) (k := fun s => srtK m) q
  refine ⟨r, s, h, rp, rs, p.imp fun vs H1 ⟨r1, s1, ds, h1, rp1, rs1, rl1, p1⟩ => ?_⟩
  show _ = _ ∧ _
  refine ⟨rfl, r1, ds, h1, rp1, rl1, ?_⟩
  cases z : srtK m ds h1 with
  | ok d h2 => rw [z] at p1; exact p1
  | exc c fs h2 =>
    unfold srtK at z
    repeat' split at z
    all_goals first | cases z | skip
  | bad => rw [z] at p1; exact p1.elim
end
end PM
end
section
set_option Elab.async false
set_option linter.all false
set_option maxRecDepth 100000
set_option maxHeartbeats 2000000
namespace PM
open PySem PySem.Spec PyProof.Rows L2

section
variable {X : Cx} {K : PySem.W.Frag} {mg : Str → Option Value} {r : List Addr} {H : Hp} {h : HP} {W : WX} {a b c e o : Expr} {es rest : List Expr} {ma mb mc : ME} {t : MA} {pos pos' apos cpos : Pos}

/-! ### tuples that are known as objects: made by a display, by tuple(list), by + -/
theorem fx_laid {pins : List (Addr × Obj)} {s : Shared} {σ : L2.St} {h' : Heap} {tk : Nat} {xs : List D} {vs : List V} {us : List Value} {Q : VK} (I : Inv X pins σ H s) (hk : ∀ b u, s.heap.get? b = some u → h'.get? b = some u) (rp : Rep X.K X.mg r h H) (rl : RelDs X.K X.mg r H xs vs) (rv : Vals vs us) (hz : vs.length ≤ sizeLine) {p : Addr} (hp : s.heap.objs.size ≤ p)
    (ho : h'.get? p = some { cls := .type "tuple", data := .seq us.toArray }) (q : PostV X.K X.mg r H Q (some (.stp xs, h))) : EP X pins σ Q (.ref p) { s with heap := h', toks := tk } := by
  have hn : H p = none := I.hok.fresh hp
  have new : ObjOk X.prog X.w (upd H p (.frz { cls := .type "tuple", data := .seq us.toArray } (.tup vs))) h' p (.frz { cls := .type "tuple", data := .seq us.toArray } (.tup vs)) := ⟨ho, hz, us, rv, ⟨_, ho, rfl, _, rfl⟩⟩
  exact ⟨.ref p, _, I.laid (t' := tk) hk hp new, rfl, q r _ _ (Ext.refl _) (Keep.new hn) (rp.fresh hn) (.stp (.inl ⟨_, upd_same, rfl⟩) (rl.mono (Ext.refl _) (Keep.new hn)))⟩
def mTupF (t : MA) : ME := fun s h => (t s h).bind fun xs h => if xs.length ≤ 1000000 then .ok (.stp xs) h else .bad
theorem qe_tupF {x1} (ht : QA X W es t) : QE X W (.Tuple es x1 pos) (mTupF t) := by
  refine ⟨fun pins s σ H Q I q => ?_⟩
  have q2 := tM.bind (rr1 := rDs) (m := t) (k := fun s xs h => if xs.length ≤ 1000000 then .ok (D.stp xs) h else .bad) q
  refine wpAny_Tuple_spliced (thn (ht.run pos pins s σ H _ I q2) fun us s1 ⟨xs, H1, I1, rv, r1, s2, ds, h1, rp1, rs1, rl1, p1⟩ => ?_)
  by_cases hz : ds.length ≤ 1000000
  · rw [if_pos hz] at p1
    have rl1 : RelDs X.K X.mg r1 H1 ds xs := rl1
    have hl : xs.length ≤ sizeLine := line_of (by rw [← rl1.length]; exact hz)
    refine ⟨by rw [← rv.length]; exact hl, ?_⟩
    exact fx_laid (tk := s1.toks) I1 (fun b u e => Heap.get?_push_of_some _ e) rp1 rl1 rv hl (Nat.le_refl _) (Heap.get?_push_size _ rfl) p1
  · rw [if_neg hz] at p1; exact p1.elim
def toTupF : List D → HP → Option (D × HP) := fun ds h => match ds with
  | [.ref i] => match h[i]? with
    | some (.lst xs) => some (.stp xs, h)
    | some (.rdl xs) => some (.stp xs, h)
    | _ => none
  | _ => none
theorem call_toTupF : CallR X (.type "tuple") (rVs X.K X.mg toTupF) := by
  intro pins s σ H xs us Q I rv ⟨r, ds, h, rp, rl, p⟩
  unfold toTupF at p
  split at p
  · rename_i i
    obtain ⟨v, rfl, rd⟩ := one_of (ds := []) rl
    cases rd with
    | @ref _ ad ea =>
      obtain ⟨u, rfl, rx⟩ := vals1 rv
      cases rx
      have go : ∀ {xs : List D}, (h[i]? = some (.lst xs) ∨ h[i]? = some (.rdl xs)) → PostV X.K X.mg r H Q (some (.stp xs, h)) → wpAny (model X.prog X.w) X.A (call (.type "tuple") [.ref ad]) (EP X pins σ Q) X.xe s := fun {xs} hx p => by
        obtain ⟨vs, sq, rls⟩ := list_at rp ea hx
        obtain ⟨its, rv2, pl, hz⟩ := I.list sq
        have hlen := rv2.length
        refine call_tuple_list pl.isList (fun h' kp => ?_) (by simp only [List.size_toArray]; omega)
        have I1 : Inv X pins σ H { s with heap := h' } := I.kept (t' := s.toks) kp
        exact fx_laid (tk := s.toks) I1 (fun b u e => Heap.get?_push_of_some _ e) rp rls rv2 hz (Nat.le_refl _) (Heap.get?_push_size _ rfl) p
      split at p
      · rename_i xs hx; exact go (.inl hx) p
      · rename_i xs hx; exact go (.inr hx) p
      · exact p.elim
  · exact p.elim
/-- t + u of tuples, both not empty -/
def catF : D → D → HP → Option (D × HP) := fun x y h => match seqD x h, seqD y h with
  | some xs, some ys => if isTup x = true ∧ isTup y = true ∧ xs.length + ys.length ≤ 1000000 then (match xs, ys with | [], _ => some (y, h) | _ :: _, [] => some (x, h) | _ :: _, _ :: _ => some (.stp (xs ++ ys), h)) else none
  | _, _ => none
where isTup : D → Bool
  | .tup _ => true
  | .stp _ => true
  | _ => false
theorem tup_of {d : D} {v : V} {xs : List D} (rp : Rep K mg r h H) (rl : RelD K mg r H d v) (ht : catF.isTup d = true) (e : seqD d h = some xs) : ∃ ad vs, v = .ref ad ∧ SqT K H ad vs ∧ RelDs K mg r H xs vs := by
  obtain ⟨ad, vs, e1, rls, q⟩ := seqD_ok2 rp rl e
  rcases q with ⟨_, i, e2, _⟩ | ⟨q, _⟩
  · subst e2; cases ht
  · exact ⟨ad, vs, e1, q, rls⟩
theorem op_catF : OpR X (binaryOp .Add) (rV2 X.K X.mg catF) := by
  intro pins s σ H x y v u Q I rx ry ⟨r, a, b, h, rp, ra, rb, p⟩
  unfold catF at p
  cases e1 : seqD a h with
  | none => rw [e1] at p; exact p.elim
  | some xs =>
    cases e2 : seqD b h with
    | none => rw [e1, e2] at p; exact p.elim
    | some ys =>
      rw [e1, e2] at p
      dsimp only at p
      split at p
      · rename_i hc
        obtain ⟨t1, t2, hz⟩ := hc
        obtain ⟨ad, vs, rfl, sq1, rl1⟩ := tup_of rp ra t1 e1
        obtain ⟨bd, ws, rfl, sq2, rl2⟩ := tup_of rp rb t2 e2
        cases rx
        cases ry
        obtain ⟨its, r1, p1, _⟩ := I.tuple sq1
        obtain ⟨its2, r2, p2, _⟩ := I.tuple sq2
        have hz' : vs.length + ws.length ≤ sizeLine := line_of (by rw [← rl1.length, ← rl2.length]; exact hz)
        cases xs with
        | nil =>
          obtain rfl := (nil_of rl1).mp rfl
          cases r1
          exact cat_tup0 p1 p2 ⟨.ref bd, H, I, rfl, p.here rp rb⟩
        | cons x0 xs =>
        cases ys with
        | nil => exact HT.cat_tup p1 p2 (fun z => absurd ((nil_of rl1).mpr (r1.nil_iff.mp z)) (by simp)) (fun z => ⟨.ref ad, H, I, rfl, p.here rp ra⟩) (fun z => absurd (r2.nil_iff.mpr ((nil_of rl2).mp rfl)) z) (by rw [← r1.length, ← r2.length]; exact hz')
        | cons y0 ys =>
        refine HT.cat_tup p1 p2 (fun z => absurd ((nil_of rl1).mpr (r1.nil_iff.mp z)) (by simp)) (fun z => absurd ((nil_of rl2).mpr (r2.nil_iff.mp z)) (by simp)) (fun z => ?_) (by rw [← r1.length, ← r2.length]; exact hz')
        exact fx_laid (tk := s.toks) I (fun b u e => Heap.get?_push_of_some _ e) rp (rl1.append rl2) (r1.append r2) (by rw [List.length_append]; exact hz') (Nat.le_refl _) (Heap.get?_push_size _ rfl) p
      · exact p.elim

/-! ### methods of tuples, too -/
def tyB2 (T : String) (d : D) (h : HP) : Bool := match d with
  | .stp _ => T == "tuple"
  | _ => tyB T d h
theorem tyB2_ok {pins : List (Addr × Obj)} {s : Shared} {σ : L2.St} {T : String} {d : D} {v : V} {u : Value} (I : Inv X pins σ H s) (rp : Rep X.K X.mg r h H) (rl : RelD X.K X.mg r H d v) (rv : RelV v u) (e : tyB2 T d h = true) :
    s.TypeIs u T ∧ ∀ a, u = .ref a → ∃ ob, s.heap.get? a = some ob ∧ ob.dict = none := by
  have rl0 := rl
  unfold tyB2 at e
  cases rl with
  | @stp xs ad vs sq rls =>
    obtain rfl : u = Value.ref ad := rv
    obtain rfl : T = "tuple" := beq_iff_eq.mp e
    rcases sq with ⟨o, q, hd⟩ | ⟨o, its, n, e1, e2, e3, e4, e5, hd⟩
    · obtain ⟨q1, _, its, _, ob, z1, z2, _⟩ := I.hok ad _ q
      rw [q1] at z1
      cases z1
      exact ⟨⟨o, q1, z2⟩, fun a z => by cases z; exact ⟨o, q1, hd⟩⟩
    · exact tyV_is I (x := .ref ad) rfl (.inr (.inl ⟨rfl, o, e1, e2, hd⟩))
  | _ => exact tyV_is I rv (tyB_ok rp rl0 e)
def mMethG (T : String) (g : D → List D → HP → Option (D × HP)) (a : ME) (t : MA) : ME := fun s h => (a s h).bind fun x h => bif tyB2 T x h then (t s h).bind fun xs h => ofO (g x xs h) else .bad
theorem qe_bmG {T id : String} {name : Str} {g : D → List D → HP → Option (D × HP)} (pa : PlainAttrs T) (slot : Slot T name id) (hty : typeOf (.builtin id) = pure (.type "method_descriptor")) (hm : MtR X id (rVm X.K X.mg g)) (ho : QE X W o ma) (ha : QA X W (e :: es) t)
    (hbase : attributeBase o name X.env (eval o X.env) = eval o X.env := by rfl)
    (hfew : ((backTo cpos (starEach (e :: es) X.env)).all (fun x => !x.1) && (backToKw cpos (keywordEach [] X.env)).all (fun x => x.1.isSome) && decide ((e :: es).length + ([] : List Keyword).length + (if ([] : List Keyword).isEmpty then 0 else 1) < 30)) = true := by rfl)
    (hline : (apos.endLine == cpos.line) = true := by rfl) (hs : starEach (e :: es) X.env = (false, eval e X.env) :: starEach es X.env := by rfl) (hplain : (backTo cpos (starEach es X.env)).any (·.1) = false := by rfl) :
    QE X W (.Call (.Attribute o name apos) (e :: es) [] cpos) (mMethG T g ma t) := by
  refine ⟨fun pins s σ H Q I q => ?_⟩
  have q2 := tM.bind (rr1 := rD) (m := ma) (k := fun s x h => bif tyB2 T x h then (t s h).bind fun xs h => ofO (g x xs h) else R.bad) q
  refine wpAny_Call_method_late hbase hfew hline rfl (thn (ho.run pins s σ H _ I q2) fun v s1 ⟨x, H1, I1, rv, r1, s2, d, h1, rp1, rs1, rl1, p1⟩ => ?_)
  cases z : tyB2 T d h1 with
  | false => rw [z] at p1; exact p1.elim
  | true =>
    rw [z] at p1
    obtain ⟨k1, k2⟩ := tyB2_ok I1 rp1 rl1 rv z
    have hA := ha.run cpos pins s1 σ H1 _ I1 ⟨r1, s2, h1, rp1, rs1, (Post.bind (rr1 := rDs) p1).imp (Q' := fun us H2 => ∃ r2 ds h2, Rep X.K X.mg r2 h2 H2 ∧ RelD X.K X.mg r2 H2 d x ∧ RelDs X.K X.mg r2 H2 ds us ∧ PostV X.K X.mg r2 H2 Q (g d ds h2)) fun y H2 ⟨r2, ds, h2, e2, k2, rp2, rl2, p2⟩ => ⟨r2, ds, h2, rp2, rl1.mono e2 k2, rl2, p2.ofO⟩⟩
    refine ⟨T, id, pa, slot, hty, k1, k2, ?_⟩
    rw [hs] at hA ⊢
    refine Calls.callWith_builtin (by show (false || (backTo cpos (starEach es X.env)).any (·.1)) = false; rw [hplain]; rfl) (Calls.evalArgs_plain (thn hA fun us s3 ⟨vs, H2, I2, rvs, r2, ds, h2, rp2, rd2, rls2, p2⟩ => ?_))
    exact hm pins s3 σ H2 x vs v us Q I2 rv rvs ⟨r2, d, ds, h2, rp2, rd2, rls2, p2⟩

/-! ### x.index(text) -/
def strsD : List D → Option (List Str)
  | [] => some []
  | .str x :: ds => (strsD ds).map (x :: ·)
  | _ :: _ => none
theorem strsD_rel : ∀ {ds : List D} {vs : List V} {ys : List Str}, RelDs K mg r H ds vs → strsD ds = some ys → vs = ys.map V.str
  | _, _, _, .nil, e => by cases e; rfl
  | _, _, _, .cons (x := d) a t, e => by
    cases a with
    | str x =>
      obtain ⟨zs, e1, e2⟩ := Option.map_eq_some_iff.mp e
      subst e2
      rw [strsD_rel t e1]; rfl
    | _ => cases e
def idxOf (z : Str) : List Str → Option Nat
  | [] => none
  | y :: ys => if y = z then some 0 else (idxOf z ys).map (· + 1)
theorem idxOf_ok {z : Str} : ∀ {ys : List Str} {j : Nat}, idxOf z ys = some j → ys[j]? = some z ∧ ∀ m, m < j → ys[m]? ≠ some z
  | [], j, e => by cases e
  | y :: ys, j, e => by
    unfold idxOf at e
    by_cases hy : y = z
    · rw [if_pos hy] at e
      cases e
      exact ⟨by simp [hy], fun m hm => absurd hm (Nat.not_lt_zero _)⟩
    · rw [if_neg hy] at e
      obtain ⟨k, e1, e2⟩ := Option.map_eq_some_iff.mp e
      subst e2
      obtain ⟨q1, q2⟩ := idxOf_ok e1
      refine ⟨by simpa using q1, fun m hm => ?_⟩
      cases m with
      | zero => simpa using hy
      | succ m => simpa using q2 m (by omega)
/-- of a list, of a tuple -/
def indexG (tp : Bool) : D → List D → HP → Option (D × HP) := fun x ds h => match ds with
  | [.str z] => if catF.isTup x = tp then (match seqD x h with
    | some xs => match strsD xs with
      | some ys => (idxOf z ys).map fun j => (.int j, h)
      | none => none
    | none => none) else none
  | _ => none
theorem indexG_in {tp : Bool} {x : D} {ds : List D} {p : Option (D × HP)} {Q : VK} (e : indexG tp x ds h = p) (q : PostV K mg r H Q p) : ∃ z xs ys j, ds = [.str z] ∧ catF.isTup x = tp ∧ seqD x h = some xs ∧ strsD xs = some ys ∧ idxOf z ys = some j ∧ PostV K mg r H Q (some (.int j, h)) := by
  subst e
  unfold indexG at q
  split at q
  · rename_i z
    split at q
    · rename_i ht
      split at q
      · rename_i xs e1
        split at q
        · rename_i ys e2
          cases e3 : idxOf z ys with
          | none => rw [e3] at q; exact q.elim
          | some j => rw [e3] at q; exact ⟨z, xs, ys, j, rfl, ht, e1, e2, e3, q⟩
        · exact q.elim
      · exact q.elim
    · exact q.elim
  · exact q.elim
theorem flat_strs2 (ys : List Str) : (ys.map V.str).all flatV = true := by
  rw [List.all_eq_true]
  intro v hv
  obtain ⟨y, _, rfl⟩ := List.mem_map.mp hv
  rfl
theorem mt_indexL : MtR X "list.index" (rVm X.K X.mg (indexG false)) := by
  intro pins s σ H x xs v us Q I rx rv ⟨r, d, ds, h, rp, rl, rls, p⟩
  obtain ⟨z, xs', ys, j, rfl, ht, e1, e2, e3, p⟩ := indexG_in rfl p
  obtain ⟨w, rfl, rw⟩ := one_of (ds := []) rls
  obtain ⟨ad, vs, rfl, rlx, q⟩ := seqD_ok2 rp rl e1
  cases rw
  rcases q with ⟨sq, _⟩ | ⟨_, hd⟩
  · obtain rfl := strsD_rel rlx e2
    obtain ⟨i1, i2⟩ := idxOf_ok e3
    refine mt_index pins s σ H _ _ v us Q I rx rv ⟨ad, ys.map V.str, .str z, j, .str z, rfl, rfl, sq, rfl, flat_strs2 ys, by rw [List.getElem?_map, i1]; rfl, by simp [eqV], fun m z' hm hz' => ?_, p.here rp (.int _)⟩
    rw [List.getElem?_map] at hz'
    obtain ⟨y, hy, rfl⟩ := Option.map_eq_some_iff.mp hz'
    have : y ≠ z := fun e => i2 m hm (by rw [hy, e])
    simp [eqV, this]
  · rcases hd with rfl | rfl <;> cases ht
theorem mt_indexT : MtR X "tuple.index" (rVm X.K X.mg (indexG true)) := by
  intro pins s σ H x xs v us Q I rx rv ⟨r, d, ds, h, rp, rl, rls, p⟩
  obtain ⟨z, xs', ys, j, rfl, ht, e1, e2, e3, p⟩ := indexG_in rfl p
  obtain ⟨w, rfl, rw⟩ := one_of (ds := []) rls
  obtain ⟨ad, vs, rfl, rlx, q⟩ := seqD_ok2 rp rl e1
  cases rw
  rcases q with ⟨_, i, rfl, _⟩ | ⟨sq, hd⟩
  · cases ht
  · obtain rfl := strsD_rel rlx e2
    obtain ⟨i1, i2⟩ := idxOf_ok e3
    exact mt_tup_index pins s σ H _ _ v us Q I rx rv ⟨ad, ys, z, j, rfl, rfl, sq, i1, i2, p.here rp (.int _)⟩
/-- which of the two the receiver has is told when it runs -/
def mIdx (a : ME) (t : MA) : ME := fun s h => (a s h).bind fun x h => if catF.isTup x = true then (bif tyB2 "tuple" x h then (t s h).bind fun xs h => ofO (indexG true x xs h) else .bad) else (bif tyB2 "list" x h then (t s h).bind fun xs h => ofO (indexG false x xs h) else .bad)
theorem qe_idx (ho : QE X W o ma) (ha : QA X W (e :: es) t)
    (hbase : attributeBase o "index" X.env (eval o X.env) = eval o X.env := by rfl)
    (hfew : ((backTo cpos (starEach (e :: es) X.env)).all (fun x => !x.1) && (backToKw cpos (keywordEach [] X.env)).all (fun x => x.1.isSome) && decide ((e :: es).length + ([] : List Keyword).length + (if ([] : List Keyword).isEmpty then 0 else 1) < 30)) = true := by rfl)
    (hline : (apos.endLine == cpos.line) = true := by rfl) (hs : starEach (e :: es) X.env = (false, eval e X.env) :: starEach es X.env := by rfl) (hplain : (backTo cpos (starEach es X.env)).any (·.1) = false := by rfl) :
    QE X W (.Call (.Attribute o "index" apos) (e :: es) [] cpos) (mIdx ma t) := by
  have hT := qe_bmG (W := W) (ma := ma) (t := t) (apos := apos) (cpos := cpos) PySem.F.plainAttrs_tuple PySem.F.slot_tuple_index PySem.F.type_tuple_index mt_indexT ho ha hbase hfew hline hs hplain
  have hL := qe_bmG (W := W) (ma := ma) (t := t) (apos := apos) (cpos := cpos) PySem.F.plainAttrs_list PySem.F.slot_list_index PySem.F.type_list_index mt_indexL ho ha hbase hfew hline hs hplain
  refine ⟨fun pins s σ H Q I q => ?_⟩
  obtain ⟨r, s2, h, rp, rs, p⟩ := q
  unfold mIdx at p
  by_cases hd : ∃ x h1, ma s2 h = .ok x h1 ∧ catF.isTup x = true
  · obtain ⟨x, h1, e1, e2⟩ := hd
    refine hT.run pins s σ H Q I ⟨r, s2, h, rp, rs, ?_⟩
    unfold mMethG
    rw [e1] at p ⊢
    dsimp only [R.bind] at p ⊢
    rw [if_pos e2] at p
    exact p
  · refine hL.run pins s σ H Q I ⟨r, s2, h, rp, rs, ?_⟩
    unfold mMethG
    cases e1 : ma s2 h with
    | ok x h1 =>
      rw [e1] at p
      dsimp only [R.bind] at p ⊢
      rw [if_neg (fun z => hd ⟨x, h1, e1, z⟩)] at p
      exact p
    | exc c fs h1 => rw [e1] at p; exact p
    | bad => rw [e1] at p; exact p

/-! ### sum, min, max of a list of numbers -/
def intsD : List D → Option (List Int)
  | [] => some []
  | .int x :: ds => (intsD ds).map (x :: ·)
  | _ :: _ => none
theorem intsD_rel : ∀ {ds : List D} {vs : List V} {ys : List Int}, RelDs K mg r H ds vs → intsD ds = some ys → vs = ys.map V.int
  | _, _, _, .nil, e => by cases e; rfl
  | _, _, _, .cons (x := d) a t, e => by
    cases a with
    | int x =>
      obtain ⟨zs, e1, e2⟩ := Option.map_eq_some_iff.mp e
      subst e2
      rw [intsD_rel t e1]; rfl
    | _ => cases e
def listI (ds : List D) (h : HP) : Option (List Int) := match ds with
  | [.ref i] => match h[i]? with
    | some (.lst xs) => intsD xs
    | some (.rdl xs) => intsD xs
    | _ => none
  | _ => none
theorem listI_ok {ds : List D} {vs : List V} {ns : List Int} (rp : Rep K mg r h H) (rl : RelDs K mg r H ds vs) (e : listI ds h = some ns) : ∃ ad, vs = [.ref ad] ∧ SqL K H ad (ns.map V.int) := by
  unfold listI at e
  split at e
  · rename_i i
    obtain ⟨v, rfl, rd⟩ := one_of (ds := []) rl
    cases rd with
    | @ref _ ad ea =>
      split at e
      · rename_i xs hx
        obtain ⟨vs, sq, rls⟩ := list_at rp ea (.inl hx)
        exact ⟨ad, rfl, by rw [← intsD_rel rls e]; exact sq⟩
      · rename_i xs hx
        obtain ⟨vs, sq, rls⟩ := list_at rp ea (.inr hx)
        exact ⟨ad, rfl, by rw [← intsD_rel rls e]; exact sq⟩
      · cases e
  · cases e
def least : Int → List Int → Int
  | x, [] => x
  | x, y :: ys => least (if y < x then y else x) ys
def most : Int → List Int → Int
  | x, [] => x
  | x, y :: ys => most (if x < y then y else x) ys
theorem least_ok : ∀ (ys : List Int) (x : Int), (least x ys = x ∨ least x ys ∈ ys) ∧ least x ys ≤ x ∧ ∀ y ∈ ys, least x ys ≤ y
  | [], x => ⟨.inl rfl, Int.le_refl _, fun _ h => by cases h⟩
  | y :: ys, x => by
    obtain ⟨q1, q2, q3⟩ := least_ok ys (if y < x then y else x)
    unfold least
    by_cases hy : y < x
    · rw [if_pos hy] at q1 q2 q3 ⊢
      refine ⟨.inr ?_, by omega, fun z hz => ?_⟩
      · rcases q1 with q1 | q1
        · rw [q1]; exact List.mem_cons_self
        · exact List.mem_cons_of_mem _ q1
      · rcases List.mem_cons.mp hz with rfl | hz
        · exact q2
        · exact q3 z hz
    · rw [if_neg hy] at q1 q2 q3 ⊢
      refine ⟨?_, q2, fun z hz => ?_⟩
      · rcases q1 with q1 | q1
        · exact .inl q1
        · exact .inr (List.mem_cons_of_mem _ q1)
      · rcases List.mem_cons.mp hz with rfl | hz
        · omega
        · exact q3 z hz
theorem most_ok : ∀ (ys : List Int) (x : Int), (most x ys = x ∨ most x ys ∈ ys) ∧ x ≤ most x ys ∧ ∀ y ∈ ys, y ≤ most x ys
  | [], x => ⟨.inl rfl, Int.le_refl _, fun _ h => by cases h⟩
  | y :: ys, x => by
    obtain ⟨q1, q2, q3⟩ := most_ok ys (if x < y then y else x)
    unfold most
    by_cases hy : x < y
    · rw [if_pos hy] at q1 q2 q3 ⊢
      refine ⟨.inr ?_, by omega, fun z hz => ?_⟩
      · rcases q1 with q1 | q1
        · rw [q1]; exact List.mem_cons_self
        · exact List.mem_cons_of_mem _ q1
      · rcases List.mem_cons.mp hz with rfl | hz
        · exact q2
        · exact q3 z hz
    · rw [if_neg hy] at q1 q2 q3 ⊢
      refine ⟨?_, q2, fun z hz => ?_⟩
      · rcases q1 with q1 | q1
        · exact .inl q1
        · exact .inr (List.mem_cons_of_mem _ q1)
      · rcases List.mem_cons.mp hz with rfl | hz
        · omega
        · exact q3 z hz
def sumL : List D → HP → Option (D × HP) := fun ds h => (listI ds h).map fun ns => (.int ns.sum, h)
def minL : List D → HP → Option (D × HP) := fun ds h => match listI ds h with
  | some (n :: ns) => some (.int (least n ns), h)
  | some [] => none
  | none => min2G ds h
def maxL : List D → HP → Option (D × HP) := fun ds h => match listI ds h with
  | some (n :: ns) => some (.int (most n ns), h)
  | some [] => none
  | none => max2G ds h
theorem call_sumL (hc : X.calm = true) : CallR X (.builtin "sum") (rVs X.K X.mg sumL) := by
  intro pins s σ H xs us Q I rv ⟨r, ds, h, rp, rl, p⟩
  unfold sumL at p
  cases e : listI ds h with
  | none => rw [e] at p; exact p.elim
  | some ns =>
    rw [e] at p
    obtain ⟨ad, rfl, sq⟩ := listI_ok rp rl e
    exact cr_sum hc pins s σ H _ us Q I rv ⟨ad, ns, rfl, sq, p.here rp (.int _)⟩
theorem call_minL (hc : X.calm = true) : CallR X (.builtin "min") (rVs X.K X.mg minL) := by
  intro pins s σ H xs us Q I rv ⟨r, ds, h, rp, rl, p⟩
  unfold minL at p
  split at p
  · rename_i n ns e
    obtain ⟨ad, rfl, sq⟩ := listI_ok rp rl e
    refine cr_min hc pins s σ H _ us Q I rv ⟨ad, _, rfl, sq, by simp, fun m hm hle => ?_⟩
    obtain ⟨q1, q2, q3⟩ := least_ok ns n
    have h1 : least n ns ∈ n :: ns := by
      rcases q1 with q1 | q1
      · rw [q1]; exact List.mem_cons_self
      · exact List.mem_cons_of_mem _ q1
    have h2 : least n ns ≤ m := by
      rcases List.mem_cons.mp hm with rfl | hm
      · exact q2
      · exact q3 m hm
    have : m = least n ns := Int.le_antisymm (hle _ h1) h2
    rw [this]
    exact p.here rp (.int _)
  · exact p.elim
  · exact call_min2G hc pins s σ H xs us Q I rv ⟨r, ds, h, rp, rl, p⟩
theorem call_maxL (hc : X.calm = true) : CallR X (.builtin "max") (rVs X.K X.mg maxL) := by
  intro pins s σ H xs us Q I rv ⟨r, ds, h, rp, rl, p⟩
  unfold maxL at p
  split at p
  · rename_i n ns e
    obtain ⟨ad, rfl, sq⟩ := listI_ok rp rl e
    refine cr_max hc pins s σ H _ us Q I rv ⟨ad, _, rfl, sq, by simp, fun m hm hle => ?_⟩
    obtain ⟨q1, q2, q3⟩ := most_ok ns n
    have h1 : most n ns ∈ n :: ns := by
      rcases q1 with q1 | q1
      · rw [q1]; exact List.mem_cons_self
      · exact List.mem_cons_of_mem _ q1
    have h2 : m ≤ most n ns := by
      rcases List.mem_cons.mp hm with rfl | hm
      · exact q2
      · exact q3 m hm
    have : m = most n ns := Int.le_antisymm h2 (hle _ h1)
    rw [this]
    exact p.here rp (.int _)
  · exact p.elim
  · exact call_max2G hc pins s σ H xs us Q I rv ⟨r, ds, h, rp, rl, p⟩

/-! ### lists: times, slices, list(..) -/
def mulL : D → D → HP → Option (D × HP) := fun x y h => match x, y with
  | .ref i, .int k => match h[i]? with
    | some (.lst xs) => if 0 ≤ k ∧ k ≤ 1000000 ∧ xs.length * k.toNat ≤ 1000000 then some (.ref h.length, h ++ [.lst (List.replicate k.toNat xs).flatten]) else none
    | _ => none
  | _, _ => mulG x y h
theorem rep_rel {xs : List D} {vs : List V} (q : RelDs K mg r H xs vs) : ∀ n : Nat, RelDs K mg r H (List.replicate n xs).flatten (List.replicate n vs).flatten
  | 0 => .nil
  | n + 1 => by rw [List.replicate_succ, List.replicate_succ, List.flatten_cons, List.flatten_cons]; exact q.append (rep_rel q n)
theorem op_mulL : OpR X (binaryOp .Mult) (rV2 X.K X.mg mulL) := by
  intro pins s σ H x y v u Q I rx ry ⟨r, a, b, h, rp, ra, rb, p⟩
  unfold mulL at p
  split at p
  · rename_i i k
    cases ra with
    | @ref _ ad ea =>
      cases rb
      split at p
      · rename_i xs hx
        by_cases hz : 0 ≤ k ∧ k ≤ 1000000 ∧ xs.length * k.toNat ≤ 1000000
        · rw [if_pos hz] at p
          obtain ⟨vs, q, rls⟩ := rp.obs _ _ ad hx ea
          exact op_rep pins s σ H _ _ v u Q I rx ry ⟨ad, k, vs, rfl, rfl, q, by omega, by omega, line_of (by rw [← rls.length]; exact hz.2.2), fun p' hp => p.lst rp (rep_rel rls _) hp⟩
        · rw [if_neg hz] at p; exact p.elim
      · exact p.elim
  · exact op_mulG pins s σ H x y v u Q I rx ry ⟨r, a, b, h, rp, ra, rb, p⟩
def cutD (xs : List D) (lo hi : Option Int) : List D := (xs.drop (HT.sIx xs.length 0 lo)).take (HT.sIx xs.length xs.length hi - HT.sIx xs.length 0 lo)
def slL : D → Option Int → Option Int → HP → Option (D × HP) := fun x lo hi h => match x with
  | .ref i => match h[i]? with
    | some (.lst xs) => some (.ref h.length, h ++ [.lst (cutD xs lo hi)])
    | some (.rdl xs) => some (.ref h.length, h ++ [.lst (cutD xs lo hi)])
    | _ => none
  | _ => slG x lo hi h
theorem take_rel {xs : List D} {vs : List V} (q : RelDs K mg r H xs vs) : ∀ n : Nat, RelDs K mg r H (xs.take n) (vs.take n) := by
  intro n
  induction n generalizing xs vs with
  | zero => simp; exact .nil
  | succ n ih => cases q with
    | nil => exact .nil
    | cons a t => exact .cons a (ih t)
theorem drop_rel {xs : List D} {vs : List V} (q : RelDs K mg r H xs vs) : ∀ n : Nat, RelDs K mg r H (xs.drop n) (vs.drop n) := by
  intro n
  induction n generalizing xs vs with
  | zero => exact q
  | succ n ih => cases q with
    | nil => simp; exact .nil
    | cons a t => exact ih t
theorem cut_rel {xs : List D} {vs : List V} (q : RelDs K mg r H xs vs) (lo hi : Option Int) : RelDs K mg r H (cutD xs lo hi) (cutV vs lo hi) := by
  unfold cutD cutV
  rw [q.length]
  exact take_rel (drop_rel q _) _
theorem sl_L : SlR X (rVsl X.K X.mg slL) := by
  intro pins s σ H x v vl vu lo hi sl Q I rx hs pl pu ⟨r, d, h, rp, rl, p⟩
  unfold slL at p
  cases rl with
  | @ref i ad ea =>
    dsimp only at p
    have go : ∀ {xs : List D}, (h[i]? = some (.lst xs) ∨ h[i]? = some (.rdl xs)) → PostV X.K X.mg r H Q (some (.ref h.length, h ++ [.lst (cutD xs lo hi)])) → ∃ vs, SqL X.K H ad vs ∧ ∀ p, H p = none → Q (.ref p) (upd H p (.lst (cutV vs lo hi))) := fun {xs} hx p => by
      obtain ⟨vs, sq, rls⟩ := list_at rp ea hx
      exact ⟨vs, sq, fun p' hp => p.lst rp (cut_rel rls lo hi) hp⟩
    have fin : (∃ vs, SqL X.K H ad vs ∧ ∀ p, H p = none → Q (.ref p) (upd H p (.lst (cutV vs lo hi)))) → _ := fun q => sl_list pins s σ H _ v vl vu lo hi sl Q I rx hs pl pu (let ⟨vs, a, b⟩ := q; ⟨ad, vs, rfl, a, b⟩)
    split at p
    · rename_i xs hx; exact fin (go (.inl hx) p)
    · rename_i xs hx; exact fin (go (.inr hx) p)
    · exact p.elim
  | str z => exact sl_G pins s σ H _ v vl vu lo hi sl Q I rx hs pl pu ⟨r, _, h, rp, .str z, p⟩
  | _ => exact p.elim
def toLst : List D → HP → Option (D × HP) := fun ds h => match ds with
  | [d] => (seqD d h).map fun xs => (.ref h.length, h ++ [.lst xs])
  | _ => none
theorem call_toLst : CallR X (.type "list") (rVs X.K X.mg toLst) := by
  intro pins s σ H xs us Q I rv ⟨r, ds, h, rp, rl, p⟩
  unfold toLst at p
  split at p
  · rename_i d
    obtain ⟨v, rfl, rd⟩ := one_of (ds := []) rl
    cases e : seqD d h with
    | none => rw [e] at p; exact p.elim
    | some xs =>
      rw [e] at p
      obtain ⟨ad, vs, rfl, sq, rls⟩ := seqD_ok rp rd e
      exact call_list_of pins s σ H _ us Q I rv ⟨ad, vs, rfl, sq.symm, fun l hl => p.lst rp rls hl⟩
  · exact p.elim

/-! ### tuple(reversed(x)) -/
theorem walks_rt {prog : Program} {w : World} {A : Around} (hh : A.handled = none) (it t : Addr) (hne : t ≠ it) (items : Array Value) (hz : items.size ≤ sizeLine) :
    Walks prog w A it [it, t] [it] items.size (fun i v => items[items.size - 1 - i]? = some v) (fun i h => i ≤ items.size ∧ RT.IsRt h it t ((items.size : Int) - 1 - (i : Int)) ∧ IsTup h t items) where
  sub := fun b hb => by simp at hb; simp [hb]
  frame := fun _ _ _ x hk => ⟨x.1, x.2.1.at fun o e => hk it (by simp) o e, by
    obtain ⟨o, ho, q⟩ := x.2.2
    exact ⟨o, hk t (by simp) o ho, q⟩⟩
  item := fun i s Q E hi x hQ => by
    obtain ⟨_, hit, ht⟩ := x
    have ei : (items.size : Int) - 1 - (i : Int) = ((items.size - 1 - i : Nat) : Int) := by omega
    rw [ei] at hit
    have hx : items[items.size - 1 - i]? = some (items[items.size - 1 - i]'(by omega)) := Array.getElem?_eq_getElem (by omega)
    refine RT.next_rt_item hit ht hx hz fun h' q sb => hQ _ h' _ hx ⟨hi, ?_, ?_⟩ fun b o hb e => (sb.2 b (by simpa using hb)).trans e
    · have e2 : ((items.size - 1 - i : Nat) : Int) - 1 = (items.size : Int) - 1 - ((i + 1 : Nat) : Int) := by omega
      rw [e2] at q; exact q
    · obtain ⟨o, ho, z⟩ := ht
      exact ⟨o, (sb.2 t hne).trans ho, z⟩
  done := fun s Q E x hQ => by
    obtain ⟨_, hit, ht⟩ := x
    have ei : (items.size : Int) - 1 - (items.size : Int) = -1 := by omega
    rw [ei] at hit
    exact RT.next_rt_end hh hit fun h' eb => hQ h' s.toks fun b o hb e => eb b o (by simpa using hb) e
  self := fun i s Q E x hQ => RT.iter_rt x.2.1 hQ
theorem slot_hint : Slot "reversed" "__length_hint__" "reversed.__length_hint__" := Slot.of (owner := "reversed") (n := "__length_hint__") (by rw [typeLookup_type, builtinLookup_eq_fast]; kernel_rfl) (by decide +kernel) (by decide +kernel) (by decide +kernel) (.inr (by decide +kernel)) (by rw [isSubtype_type]; kernel_rfl)
theorem args_hint (a : Value) : argsOk "reversed.__length_hint__" ⟨[a], []⟩ := by
  unfold argsOk
  rw [signature?_of (id := "reversed.__length_hint__") (n := ['_', '_', 't', 'n', 'i', 'h', '_', 'h', 't', 'g', 'n', 'e', 'l', '_', '_']) (o := ['d', 'e', 's', 'r', 'e', 'v', 'e', 'r']) (by kernel_rfl) RT.owner_rt]
  kernel_rfl
theorem call_hint {prog : Program} {w : World} {A : Around} {E : Value → Shared → Prop} {s : Shared} {it t : Addr} {items : Array Value} {Q : Value → Shared → Prop} (hit : RT.IsRt s.heap it t ((items.size : Int) - 1)) (ht : IsTup s.heap t items)
    (hlen : ∀ (A : Around) (E : Value → Shared → Prop) (Q : Value → Shared → Prop), Q (.int items.size (s.toks + 1)) { s with toks := s.toks + 1 + 1 } → wpAny (model prog w) A (call (.builtin "len") [.ref t]) Q E s)
    (hQ : ∀ (n : Int) (t tk : Nat), n = items.size → Q (.int n t) { s with toks := tk }) : wpAny (model prog w) A (call (.builtin "reversed.__length_hint__") [.ref it]) Q E s := by
  obtain ⟨o, ho, hc, hd⟩ := id hit
  refine wpAny_call_entry slot_hint hit.typeIs (entryFor_of_tree (b := Builtin.«reversed.__length_hint__») (by kernel_rfl)) ?_ (args_hint _)
  unfold Builtin.«reversed.__length_hint__»
  refine wpAny_bind (wpAny_of_eq (a := Value.ref it) rfl ?_)
  refine wpAny_bind (wpAny_field ho hd (x := .ref t) rfl ?_)
  refine wpAny_ite_split (fun h => absurd (show false = true from h) (by decide)) fun _ => ?_
  refine wpAny_bind (hlen _ _ _ ?_)
  refine wpAny_bind (wpAny_of_eq (a := some ((items.size : Nat) : Int)) rfl ?_)
  refine wpAny_bind (wpAny_field (s := { s with toks := s.toks + 1 + 1 }) ho hd (x := rawInt ((items.size : Int) - 1)) rfl ?_)
  refine wpAny_ite_split (fun h => absurd h (by omega)) fun _ => ?_
  refine wpAny_bind (wpAny_mkInt ?_)
  exact wpAny_pure ⟨_, rfl, hQ _ _ _ (by omega)⟩
theorem hint_rt {prog : Program} {w : World} {A : Around} {E : Value → Shared → Prop} {s : Shared} {it t : Addr} {items : Array Value} {Q : Bool → Shared → Prop} (hit : RT.IsRt s.heap it t ((items.size : Int) - 1)) (ht : IsTup s.heap t items) (hz : items.size ≤ sizeLine)
    (hlen : ∀ (A : Around) (E : Value → Shared → Prop) (Q : Value → Shared → Prop), Q (.int items.size (s.toks + 1)) { s with toks := s.toks + 1 + 1 } → wpAny (model prog w) A (call (.builtin "len") [.ref t]) Q E s)
    (hQ : ∀ (b : Bool) (tk : Nat), Q b { s with toks := tk }) : wpAny (model prog w) A (Builtin.List.listLengthHint (.ref it)) Q E s := by
  have hT : s.TypeIs (.ref it) "reversed" := hit.typeIs
  rw [sizeLine_eq] at hz
  unfold Builtin.List.listLengthHint
  refine wpAny_bind (wpAny_specialOf hT (by rw [typeLookup_type, builtinLookup_eq_fast]; kernel_rfl : typeLookup (.type "reversed") "__len__" = pure none) ?_)
  show wpAny _ A (specialOf (Value.ref it) (Str.ofString "__length_hint__") >>= _) _ _ _
  refine wpAny_bind (wpAny_specialOf hT slot_hint.lookup ?_)
  generalize hid : ("reversed.__length_hint__" : String) = id0
  wp_delta
  rw [show splitId id0 = some ("reversed", "__length_hint__") from by subst hid; decide +kernel]
  subst hid
  refine wpAny_bind (wpAny_isInstance (b := true) hT (by rw [isSubtype_type]; kernel_rfl) ?_)
  refine wpAny_ite_split (fun hab => absurd hab (by decide)) (fun _ => ?_)
  refine wpAny_ite_split (fun h => absurd h (by decide +kernel)) (fun _ => ?_)
  refine wpAny_bind (wpAny_rule ?_)
  refine wpAny_bind (wpAny_of_eq (slot_hint.bind _) ?_)
  refine wpAny_bind (wpAny_attempt (call_hint hit ht hlen fun n t' tk hn => ?_))
  have hl : Builtin.List.listTooLong n.toNat = false := by simp [Builtin.List.listTooLong, sizeLine]; omega
  refine wpAny_bind (m := asInt? _) (wpAny_pure ?_)
  refine wpAny_ite_split (fun h => absurd h ?_) (fun _ => ?_)
  · simp [Builtin.List.listFitsIndex]; omega
  refine wpAny_ite_split (fun h => absurd h (by omega)) (fun _ => ?_)
  exact wpAny_ite_split (fun h => absurd h (by rw [hl]; decide)) (fun _ => wpAny_pure (hQ _ _))
end
end PM
end
section
set_option Elab.async false
set_option linter.all false
set_option maxRecDepth 100000
set_option maxHeartbeats 2000000
namespace PM
open PySem PySem.Spec PyProof.Rows L2

/-! ### tuple(reversed(a tuple)) -/
section
variable {prog : Program} {w : World} {A : Around} {E : Value → Shared → Prop} {s : Shared}
def RtLen (prog : Program) (w : World) (s : Shared) (t : Addr) (items : Array Value) : Prop :=
  ∀ (h' : Heap) (tk : Nat) (A : Around) (E : Value → Shared → Prop) (Q : Value → Shared → Prop), (∀ o, s.heap.get? t = some o → h'.get? t = some o) → Q (.int items.size (tk + 1)) { s with heap := h', toks := tk + 1 + 1 } → wpAny (model prog w) A (call (.builtin "len") [.ref t]) Q E { s with heap := h', toks := tk }
theorem collect_rt {it t : Addr} {items : Array Value} {Q : List Value → Shared → Prop} (hh : A.handled = none) (hit : RT.IsRt s.heap it t ((items.size : Int) - 1)) (ht : IsTup s.heap t items) (hne : t ≠ it) (hn : items.size ≤ sizeLine) (hlen : RtLen prog w s t items)
    (hQ : ∀ (h' : Heap) (tk : Nat) (acc : Array Value), (∀ b o, b ≠ it → s.heap.get? b = some o → h'.get? b = some o) → ItemsOf (fun i v => items[items.size - 1 - i]? = some v) acc items.size → Q acc.toList { s with heap := h', toks := tk }) :
    wpAny (model prog w) A (collect (.ref it)) Q E s := by
  have W := (walks_rt (prog := prog) (w := w) (A := A.in1) hh it t hne items hn).toS
  obtain ⟨oi, hoi, _⟩ := id hit
  obtain ⟨ot, hot, _⟩ := id ht
  have nSi : s.heap.objs.size ≠ it := Nat.ne_of_gt (Heap.lt_size hoi)
  have nSt : s.heap.objs.size ≠ t := Nat.ne_of_gt (Heap.lt_size hot)
  have nf : s.heap.objs.size ∉ [it, t] := by simp; exact ⟨nSi, nSt⟩
  unfold collect
  refine wpAny_bind (wpAny_runValue (codeAny_builtin F.entry_proto_collect ?_))
  rw [Around.under_plainId F.plain_proto_collect _]
  show wpAny _ A.in1 (newList [] >>= fun l' => again (.builtin "list.__iadd__" ⟨[l', .ref it], []⟩)) _ _ s
  refine wpAny_bind (wpAny_newObj_type ?_)
  refine wpAny_pure ⟨plainId_quiet F.plain_list_iadd _, codeAny_builtin F.entry_list_iadd ?_⟩
  rw [Around.under_plainId F.plain_list_iadd _]
  generalize ho : ({ cls := .type "list", data := .seq ([] : List Value).toArray } : Obj) = ob
  have gS : (s.heap.push ob).get? s.heap.objs.size = some { cls := .type "list", data := .seq #[] } := by rw [← ho]; exact Heap.get?_push_size _ rfl
  have it1 : RT.IsRt (s.heap.push ob) it t ((items.size : Int) - 1) := hit.at fun o e => Heap.get?_push_of_some _ e
  have t1 : IsTup (s.heap.push ob) t items := by obtain ⟨o, e, q⟩ := ht; exact ⟨o, Heap.get?_push_of_some _ e, q⟩
  have hT : ({ s with heap := s.heap.push ob } : Shared).TypeIs (.ref it) "reversed" := RT.IsRt.typeIs (s := { s with heap := s.heap.push ob }) it1
  have ns : Builtin.List.listSameRef (.ref s.heap.objs.size) (.ref it) = false := by simp [Builtin.List.listSameRef, nSi]
  have key : ∀ (h : Heap) (c₁ tk : Nat), RT.IsRt h it t ((items.size : Int) - 1) → IsTup h t items → (∀ b o, b ≠ s.heap.objs.size → s.heap.get? b = some o → h.get? b = some o) → h.get? s.heap.objs.size = some { cls := .type "list", data := .seq #[] c₁ } →
      codeAny (model prog w) A (.builtin "list.extend.loop" ⟨[.ref s.heap.objs.size, .ref it, .ref s.heap.objs.size], []⟩) (fun r s' => match r with | .ok (.ret v) => wpAny (model prog w) A (match v with | .ref a => (do match (← load a).data with | .seq xs _ => return xs.toList | _ => unsupported "internal:collect") | _ => unsupported "internal:collect") Q E s' | .ok _ => False | .error e => E e s') { s with heap := h, toks := tk } := by
    intro h c₁ tk a1 a2 kp gS1
    have e0 : ((items.size : Nat) : Int) - 1 - ((0 : Nat) : Int) = (items.size : Int) - 1 := by omega
    refine codeAny_extend_loopS W hn _ nf _ items.size 0 _ _ _ rfl (Nat.zero_le _) ⟨Nat.zero_le _, by rw [e0]; exact a1, a2⟩ gS1 (ItemsOf.nil _) fun s' acc' c' hm hS' hacc => ?_
    show wpAny _ A (load s.heap.objs.size >>= _) _ _ s'
    refine wpAny_bind (wpAny_load hS' ?_)
    refine wpAny_pure ?_
    rw [Moved.eq_with hm]
    refine hQ s'.heap s'.toks acc' (fun b o hb e => hm.heap b o (fun hmem => ?_) (kp b o (fun eb => ?_) e)) hacc
    · rcases List.mem_cons.mp hmem with e' | hmem
      · exact absurd (Heap.lt_size e) (by rw [e']; exact Nat.lt_irrefl _)
      · exact hb (List.mem_singleton.mp hmem)
    · exact absurd (Heap.lt_size e) (by rw [eb]; exact Nat.lt_irrefl _)
  show wpAny _ A.in1 (Builtin.List.listExtendWith (.ref s.heap.objs.size) (.ref it) (.ref s.heap.objs.size)) _ _ _
  unfold Builtin.List.listExtendWith
  refine wpAny_bind (wpAny_typeOf hT ?_)
  rw [if_neg (by rw [ns]; decide)]
  refine wpAny_bind (RT.iter_rt (s := { s with heap := s.heap.push ob }) it1 ?_)
  refine wpAny_bind (wpAny_holding (hint_rt (s := { s with heap := s.heap.push ob }) it1 t1 hn (fun A E Q h => hlen _ _ A E Q (fun o e => Heap.get?_push_of_some _ e) h) fun b tk => ?_))
  refine wpAny_ite_split (fun _ => ?_) (fun _ => wpAny_pure ⟨plainId_quiet F.plain_extend_loop _, key _ _ _ it1 t1 (fun b o _ e => Heap.get?_push_of_some _ e) gS⟩)
  refine wpAny_bind (wpAny_rule ?_)
  refine wpAny_bind ?_
  show wpAny _ _ (updateSeq s.heap.objs.size (·.push .none) >>= fun _ => updateSeq s.heap.objs.size (·.pop)) _ _ _
  refine wpAny_bind (wpAny_updateSeq gS rfl ?_)
  have g2 := Heap.get?_update_self (Obj.mapSeq (·.push Value.none)) gS rfl
  refine wpAny_updateSeq (hz := by seq_fits) g2 rfl ?_
  have g3 := Heap.get?_update_self (Obj.mapSeq (·.pop)) g2 rfl
  have oth : ∀ b o, b ≠ s.heap.objs.size → (s.heap.push ob).get? b = some o → (((s.heap.push ob).update s.heap.objs.size (Obj.mapSeq (·.push Value.none))).update s.heap.objs.size (Obj.mapSeq (·.pop))).get? b = some o := fun b o hb e => (Heap.get?_update_other _ _ (Ne.symm hb)).trans ((Heap.get?_update_other _ _ (Ne.symm hb)).trans e)
  refine wpAny_pure ⟨plainId_quiet F.plain_extend_loop _, key _ _ _ (it1.at fun o e => oth _ _ (Ne.symm nSi) e) ?_ (fun b o hb e => oth b o hb (Heap.get?_push_of_some _ e)) g3⟩
  obtain ⟨o, e, q⟩ := t1
  exact ⟨o, oth _ _ (Ne.symm nSt) e, q⟩
theorem rt_len {t : Addr} {items : Array Value} (ht : IsTup s.heap t items) (hn : items.size ≤ sizeLine) : RtLen prog w s t items := fun h' tk A E Q e k => by
  obtain ⟨o, e1, q⟩ := ht
  rw [sizeLine_eq] at hn
  exact len_tuple (s := { s with heap := h', toks := tk }) ⟨o, e o e1, q⟩ (by omega) k
theorem new_rt {it t : Addr} {items : Array Value} {Q₁ : Value → Shared → Prop} (hh : A.handled = none) (hit : RT.IsRt s.heap it t ((items.size : Int) - 1)) (ht : IsTup s.heap t items) (hne : t ≠ it) (hn : items.size ≤ sizeLine)
    (hQ : ∀ (h' : Heap) (tk : Nat) (acc : Array Value), (∀ b o, b ≠ it → s.heap.get? b = some o → h'.get? b = some o) → ItemsOf (fun i v => items[items.size - 1 - i]? = some v) acc items.size → Q₁ (.ref h'.objs.size) { s with heap := h'.push { cls := .type "tuple", data := .seq acc }, toks := tk }) :
    codeAny (model prog w) A (.call (.builtin "tuple.__new__") ⟨[.type "tuple", .ref it], []⟩) (wants Q₁ E) s := by
  refine codeAny_of_tree (wpAny_bind (wpAny_of_eq (F.newCall_tuple_1 _) (wpAny_pure ⟨plainId_quiet F.plain_tuple_new _, codeAny_builtin F.entry_tuple_new ?_⟩)))
  rw [Around.under_plainId F.plain_tuple_new _]
  have f1 := sub_tuple_self
  have f2 := init_tuple_lookup
  have f3 := madeHere_tuple
  have f4 : s.TypeIs (.ref it) "reversed" := hit.typeIs
  have f5 : A.in1.handled = none := hh
  wp_walk using wpAny_typeOf f4, collect_rt (A := A.in1) f5 hit ht hne hn (rt_len ht hn)
  intro h' tk acc hk hacc
  show wpAny _ _ (Builtin.Tuple.tupleExact acc.toList.toArray >>= fun v => ret v) _ _ _
  unfold Builtin.Tuple.tupleExact
  refine wpAny_bind (wpAny_newObj_type ?_ (by show acc.toList.toArray.size ≤ sizeLine; simp only [Array.toArray_toList, hacc.1]; exact hn))
  have e : acc.toList.toArray = acc := Array.toArray_toList
  rw [e]
  exact wpAny_pure (hQ h' tk acc hk hacc)
theorem call_rt {it t : Addr} {items : Array Value} {Q : Value → Shared → Prop} (hh : A.handled = none) (hit : RT.IsRt s.heap it t ((items.size : Int) - 1)) (ht : IsTup s.heap t items) (hne : t ≠ it) (hn : items.size ≤ sizeLine)
    (hQ : ∀ (h' : Heap) (tk : Nat) (acc : Array Value), (∀ b o, b ≠ it → s.heap.get? b = some o → h'.get? b = some o) → ItemsOf (fun i v => items[items.size - 1 - i]? = some v) acc items.size → Q (.ref h'.objs.size) { s with heap := h'.push { cls := .type "tuple", data := .seq acc }, toks := tk }) :
    wpAny (model prog w) A (call (.type "tuple") [.ref it]) Q E s := by
  refine callType_codes (Q₁ := fun obj s₁ => s₁.TypeIs obj "tuple" ∧ Q obj s₁) F.called_tuple (F.typeCall_tuple_1 _) F.entry_object_init (new_rt (A := A.in1) hh hit ht hne hn fun h' tk acc hk hacc => ⟨⟨_, Heap.get?_push_size _ rfl, rfl⟩, hQ h' tk acc hk hacc⟩) ?_
  exact fun obj s₁ h₁ => ⟨h₁.1, F.args_object_init_2 obj _, object_init_meets F.called_tuple.init.lookup F.called_tuple.made (by decide) prog w A.in1 _ s₁ ⟨h₁.1, rfl, h₁.2⟩⟩
end
section
variable {X : Cx} {K : PySem.W.Frag} {mg : Str → Option Value} {r : List Addr} {H : Hp} {h : HP} {W : WX} {a e : Expr} {ma : ME} {t : MA} {pos p p2 pos2 : Pos}
def tupD : D → Option (List D)
  | .tup xs => some xs
  | .stp xs => some xs
  | _ => none
def mTupRev (m : ME) : ME := fun s h => (m s h).bind fun d h => match tupD d with | some xs => .ok (.stp xs.reverse) h | none => .bad
theorem tupD_ok {d : D} {v : V} {xs : List D} (e : tupD d = some xs) (rd : RelD K mg r H d v) : ∃ a vs, v = .ref a ∧ SqT K H a vs ∧ RelDs K mg r H xs vs := by
  cases rd with
  | tup sq rls => cases e; exact ⟨_, _, rfl, SqT.of sq, rls⟩
  | stp sq rls => cases e; exact ⟨_, _, rfl, sq.sq, rls⟩
  | _ => cases e
theorem rels_rev : ∀ {xs : List D} {vs : List V}, RelDs K mg r H xs vs → ∀ {ys : List D} {us : List V}, RelDs K mg r H ys us → RelDs K mg r H (xs.reverse ++ ys) (vs.reverse ++ us) := by
  intro xs
  induction xs with
  | nil => intro vs rl ys us r2; cases rl; exact r2
  | cons x xs ih =>
    intro vs rl ys us r2
    cases rl with
    | cons rx rl =>
      simp only [List.reverse_cons, List.append_assoc, List.singleton_append]
      exact ih rl (.cons rx r2)
theorem qe_tupRev (hc : X.calm = true) (hg : Gl X "tuple") (hm : X.mg "tuple" = none) (hg2 : Gl X "reversed") (hm2 : X.mg "reversed" = none) (he : QE X W e ma)
    (hs : starEach [e] X.env = (false, eval e X.env) :: starEach [] X.env := by rfl)
    (hs2 : starEach [.Call (.Name "reversed" p2) [e] [] pos2] X.env = (false, eval (.Call (.Name "reversed" p2) [e] [] pos2) X.env) :: starEach [] X.env := by rfl) :
    QE X W (.Call (.Name "tuple" p) [.Call (.Name "reversed" p2) [e] [] pos2] [] pos) (mTupRev ma) := by
  refine ⟨fun pins s σ H Q I q => ?_⟩
  have q2 := tM.bind (rr1 := rD) (m := ma) (k := fun s d h => match tupD d with | some xs => .ok (D.stp xs.reverse) h | none => .bad) q
  refine Call_ (ld_blt I hg hm boot_tuple (PyProof.Rows.callWith_type1 (args_cons (Call_ (ld_blt I hg2 hm2 PyProof.Rows.boot_reversed (PyProof.Rows.callWith_type1 (args_cons (thn (he.run pins s σ H _ I q2) fun u s1 ⟨v, H1, I1, rv, r1, s2, d, h1, rp1, rs1, rd1, p1⟩ => args_nil ?_) hs) hs rfl))) hs2) hs2 rfl))
  cases e1 : tupD d with
  | none => rw [e1] at p1; exact p1.elim
  | some ds =>
    rw [e1] at p1
    have p1 : PostV X.K X.mg r1 H1 Q (some (.stp ds.reverse, h1)) := p1
    obtain ⟨t0, vs, rfl, sq, rls⟩ := tupD_ok e1 rd1
    cases rv
    obtain ⟨its, rv, ht, hz⟩ := I1.tuple sq
    have hn : its.toArray.size ≤ sizeLine := by rw [List.size_toArray, ← rv.length]; exact hz
    have hn' := hn
    rw [sizeLine_eq] at hn'
    refine RT.call_reversed_tup ht (fun A E Q k => len_tuple ht (by omega) k) (args_nil ?_)
    generalize hob : RT.rtObj t0 ((its.toArray.size : Int) - 1) = ob
    have k0 : ∀ b o, s1.heap.get? b = some o → (s1.heap.push ob).get? b = some o := fun b o e => Heap.get?_push_of_some _ e
    have I2 : Inv X pins σ H1 { s1 with heap := s1.heap.push ob, toks := s1.toks + 1 + 1 } := I1.kept (t' := s1.toks + 1 + 1) k0
    obtain ⟨f0, f1, f2, f3, f4, f5⟩ := I1.fpOk (H' := H1) (b := s1.heap.objs.size) (Nat.le_refl _) (I1.hok.fresh (Nat.le_refl _))
    obtain ⟨ot, hot, qt⟩ := id ht
    have hne : t0 ≠ s1.heap.objs.size := Nat.ne_of_lt (Heap.lt_size hot)
    refine call_rt (s := { s1 with heap := s1.heap.push ob, toks := s1.toks + 1 + 1 }) (I1.ok.hd hc) ⟨_, Heap.get?_push_size _ (by rw [← hob]; rfl), by rw [← hob]; rfl, by rw [← hob]; rfl⟩ ⟨ot, k0 _ _ hot, qt⟩ hne hn fun h' tk acc hk hi => ?_
    have I3 : Inv X pins σ H1 { s1 with heap := h', toks := tk } := I2.turned (t' := tk) (fun b o hb e => hk b o hb e) f0 f1 f3 f4 f5
    have rr : RelDs X.K X.mg r1 H1 ds.reverse vs.reverse := by
      have := rels_rev rls .nil
      simpa using this
    exact fx_laid (s := { s1 with heap := h', toks := tk }) (tk := tk) I3 (fun b u e => Heap.get?_push_of_some _ e) rp1 rr (RT.vals_rev rv hi) (by rw [List.length_reverse]; exact hz) (Nat.le_refl _) (by show (h'.push { cls := .type "tuple", data := .seq acc }).get? h'.objs.size = some { cls := .type "tuple", data := .seq acc.toList.toArray }; rw [Array.toArray_toList]; exact Heap.get?_push_size _ rfl) p1
end
end PM
end
section
set_option Elab.async false
set_option linter.all false
set_option maxRecDepth 100000
set_option maxHeartbeats 2000000
namespace PM
open PySem PySem.Spec PyProof.Rows L2

/-! ### zip of two lists, or of two tuples -/
section
variable {X : Cx} {K : PySem.W.Frag} {mg : Str → Option Value} {r : List Addr} {H : Hp} {h : HP} {W : WX} {e e2 : Expr} {t : MA} {pos p tpos : Pos}
def lstD (h : HP) (i : Nat) : Option (List D) := match h[i]? with
  | some (.lst xs) => some xs
  | some (.rdl xs) => some xs
  | _ => none
def zipD (xs ys : List D) : List D := List.zipWith (fun x y => .tup [x, y]) xs ys
def itZ : List D → HP → R (List D × (HP → Prop)) := fun ds h => match ds with
  | [.ref i, .ref j] => match lstD h i, lstD h j with
    | some xs, some ys => .ok (zipD xs ys, fun h => lstD h i = some xs ∧ lstD h j = some ys) h
    | _, _ => .bad
  | [a, b] => match tupD a, tupD b with
    | some xs, some ys => .ok (zipD xs ys, fun _ => True) h
    | _, _ => .bad
  | _ => .bad
def iZ (t : MA) : MI := fun s h => (t s h).bind itZ
theorem lstD_ok {h : HP} {i : Nat} {xs : List D} (e : lstD h i = some xs) : h[i]? = some (.lst xs) ∨ h[i]? = some (.rdl xs) := by
  unfold lstD at e
  split at e <;> cases e
  · rename_i q; exact .inl q
  · rename_i q; exact .inr q
theorem zipD_get {xs ys : List D} {i : Nat} {d : D} (q : (zipD xs ys)[i]? = some d) : ∃ x y, d = .tup [x, y] ∧ xs[i]? = some x ∧ ys[i]? = some y := by
  unfold zipD at q
  rw [List.getElem?_zipWith] at q
  cases e1 : xs[i]? with
  | none => rw [e1] at q; cases q
  | some x =>
    cases e2 : ys[i]? with
    | none => rw [e1, e2] at q; cases q
    | some y => rw [e1, e2] at q; cases q; exact ⟨x, y, rfl, rfl, rfl⟩
theorem jrel_zip {r0 : List Addr} {H0 : Hp} {i j : Nat} {a b : Addr} {xs ys : List D} (ea : r0[i]? = some a) (eb : r0[j]? = some b) : JRel K mg r0 H0 (Itz K a b) (zipD xs ys) (fun h => lstD h i = some xs ∧ lstD h j = some ys) := by
  intro k r H h e kp rp ⟨g1, g2⟩
  obtain ⟨vs, sq, rl⟩ := list_at rp (e.get ea) (lstD_ok g1)
  obtain ⟨ws, sq2, rl2⟩ := list_at rp (e.get eb) (lstD_ok g2)
  refine ⟨fun d hd => ?_, fun hj => ?_⟩
  · obtain ⟨x, y, rfl, hx, hy⟩ := zipD_get hd
    obtain ⟨v, hv, rv⟩ := rl.get hx
    obtain ⟨w, hw, rw'⟩ := rl2.get hy
    refine ⟨⟨vs, ws, v, w, sq, sq2, hv, hw⟩, fun z H' ⟨T, v', w', e1, e2, e3, e4, e5⟩ => ?_⟩
    subst e1 e3
    have q1 := e4 vs sq; rw [hv] at q1; cases q1
    have q2 := e5 ws sq2; rw [hw] at q2; cases q2
    have kn : Keep H (upd H T (.tup [v, w])) := Keep.new e2
    exact ⟨kn, rp.fresh e2, .tup upd_same (.cons (rv.mono (Ext.refl _) kn) (.cons (rw'.mono (Ext.refl _) kn) .nil))⟩
  · refine ⟨vs, ws, sq, sq2, ?_⟩
    have l1 := rl.length
    have l2 := rl2.length
    unfold zipD at hj
    rw [List.length_zipWith] at hj
    omega
theorem jrel_zipT {r0 : List Addr} {H0 : Hp} {a b : Addr} {xs ys : List D} {vs ws : List V} (sq : SqT K H0 a vs) (sq2 : SqT K H0 b ws) (rl : RelDs K mg r0 H0 xs vs) (rl2 : RelDs K mg r0 H0 ys ws) : JRel K mg r0 H0 (RZ.ItzT K a b) (zipD xs ys) (fun _ => True) := by
  intro k r H h e kp rp _
  have s1 : SqT K H a vs := kp.sqT sq
  have s2 : SqT K H b ws := kp.sqT sq2
  refine ⟨fun d hd => ?_, fun hj => ?_⟩
  · obtain ⟨x, y, rfl, hx, hy⟩ := zipD_get hd
    obtain ⟨v, hv, rv⟩ := rl.get hx
    obtain ⟨w, hw, rw'⟩ := rl2.get hy
    refine ⟨⟨vs, ws, v, w, s1, s2, hv, hw⟩, fun z H' ⟨T, v', w', e1, e2, e3, e4, e5⟩ => ?_⟩
    subst e1 e3
    have q1 := e4 vs s1; rw [hv] at q1; cases q1
    have q2 := e5 ws s2; rw [hw] at q2; cases q2
    have kn : Keep H (upd H T (.tup [v, w])) := Keep.new e2
    exact ⟨kn, rp.fresh e2, .tup upd_same (.cons ((rv.mono e kp).mono (Ext.refl _) kn) (.cons ((rw'.mono e kp).mono (Ext.refl _) kn) .nil))⟩
  · refine ⟨vs, ws, s1, s2, ?_⟩
    have l1 := rl.length
    have l2 := rl2.length
    unfold zipD at hj
    rw [List.length_zipWith] at hj
    omega
theorem qi_zip {elts : List Expr} {kk : Nat} (hg : Gl X "zip") (hm : X.mg "zip" = none) (ha : QA X W [e, e2] t)
    (hs : starEach [e, e2] X.env = (false, eval e X.env) :: starEach [e2] X.env := by rfl) (hpl : (backTo pos (starEach [e2] X.env)).any (·.1) = false := by rfl) :
    QI X W (.Tuple elts kk tpos) (.Call (.Name "zip" p) [e, e2] [] pos) (iZ t) := (RZ.pi_zipA hg hm ha hs hpl).imp fun σ H Q q => by
  obtain ⟨r, s, h, rp, rs, pp⟩ := rIt.bind (rr := rDs) (m := t) (f := itZ) q
  refine ⟨r, s, h, rp, rs, pp.imp fun v H1 ⟨r1, s1, ds, h1, rp1, rs1, rl1, p1⟩ => ?_⟩
  have rl1 : RelDs X.K X.mg r1 H1 ds v := rl1
  unfold itZ at p1
  split at p1
  · rename_i i j
    obtain ⟨v1, v2, rfl, ra, rb⟩ := two_of rl1
    cases ra with
    | @ref _ a1 ea =>
    cases rb with
    | @ref _ b1 eb =>
    split at p1
    · rename_i xs ys hx hy
      obtain ⟨vs, sq, rl⟩ := list_at rp1 ea (lstD_ok hx)
      obtain ⟨ws, sq2, rl2⟩ := list_at rp1 eb (lstD_ok hy)
      exact ⟨a1, b1, vs, ws, rfl, .inl ⟨sq, sq2, p1 r1 H1 _ (Ext.refl _) (Keep.refl _) rp1 (jrel_zip ea eb)⟩⟩
    · exact p1.elim
  · rename_i a b _
    obtain ⟨v1, v2, rfl, ra, rb⟩ := two_of rl1
    split at p1
    · rename_i xs ys hx hy
      obtain ⟨a1, vs, rfl, sq, rl⟩ := tupD_ok hx ra
      obtain ⟨b1, ws, rfl, sq2, rl2⟩ := tupD_ok hy rb
      exact ⟨a1, b1, vs, ws, rfl, .inr ⟨sq, sq2, p1 r1 H1 _ (Ext.refl _) (Keep.refl _) rp1 (jrel_zipT sq sq2 rl rl2)⟩⟩
    · exact p1.elim
  · exact p1.elim
end
end PM
end
section
set_option Elab.async false
set_option linter.all false
set_option maxRecDepth 100000
set_option maxHeartbeats 2000000
namespace PM
open PySem PySem.Spec PyProof.Rows L2
theorem hu65 {A : Around} {k : Nat} (hr : Room k A) : A.units + 65 < cLine := by have := hr.un; omega
theorem sw_trueD {kx vx : Expr} {gs : List Comprehension} {scope : Scope} {pos py : Pos} {y : Str} {l : Nat} {env : Env} (hk : env.scope.kind = .function) (hy : env.scope.names.lookup y = some .local) (hl : (py.line == pos.line) = true)
    (ha : (scope.names.any fun (n, k) => n == y && (k == .local || k == .cell)) = false) : swapsWith (.DictComp kx vx gs scope pos) (some (.Name y py)) l env = pure true := by
  have h1 : env.kindOf y = some .local := hy
  have h2 : env.blockKind = .function := by unfold Env.blockKind; rw [hk]; rfl
  unfold swapsWith
  simp only [h2, h1, ha, Expr.pos, hl]
  rfl
end PM
end
section
set_option Elab.async false
set_option linter.all false
set_option maxRecDepth 100000
set_option maxHeartbeats 1000000
namespace PM
open PySem L2
section
variable {s : SD} {h : HP} {a b c : ME} {t : MA} {i n : Nat} {d x y : D} {ds : List D}
def oIH (x : Option Ob) (y : D) (h : HP) : Option (D × HP) := match x with
  | some (.dic kvs) => oKey (keyD y) kvs h
  | some (.rdd kvs) => oKey (keyD y) kvs h
  | some (.lst xs) => (match y with | .int j => oD (atI xs j) h | _ => none)
  | some (.rdl xs) => (match y with | .int j => oD (atI xs j) h | _ => none)
  | some (.dit kvs) => ((keyT y).bind (getK kvs)).map fun d => (d, h)
  | some (.rdt kvs) => ((keyT y).bind (getK kvs)).map fun d => (d, h)
  | _ => none
theorem itH_r {y : D} : itemH (.ref i) y h = oIH h[i]? y h := by
  have e0 : itemH (.ref i) y h = match lookD h[i]? y with
    | some (some d) => some (d, h)
    | some none => none
    | none => itemG (.ref i) y h := rfl
  rw [e0, it_ref]
  generalize h[i]? = o
  have kk : ∀ kvs : List (Key × D), oKey (keyD y) kvs h = (match ((keyD y).map (getK kvs) : Option (Option D)) with
    | some (some d) => some (d, h)
    | some none => none
    | none => none) := fun kvs => by
    rcases Option.eq_none_or_eq_some (keyD y) with e1 | ⟨k, e1⟩
    · rw [e1]; rfl
    · rw [e1]
      show (getK kvs k).map _ = match some (getK kvs k) with | some (some d) => some (d, h) | some none => none | none => none
      rcases Option.eq_none_or_eq_some (getK kvs k) with e2 | ⟨k, e2⟩ <;> rw [e2] <;> rfl
  have kt : ∀ kvs : List (List Key × D), (((keyT y).bind (getK kvs)).map fun d => (d, h)) = (match ((keyT y).map (getK kvs) : Option (Option D)) with
    | some (some d) => some (d, h)
    | some none => none
    | none => none) := fun kvs => by
    rcases Option.eq_none_or_eq_some (keyT y) with e1 | ⟨k, e1⟩
    · rw [e1]; rfl
    · rw [e1]
      show (getK kvs k).map _ = match some (getK kvs k) with | some (some d) => some (d, h) | some none => none | none => none
      rcases Option.eq_none_or_eq_some (getK kvs k) with e2 | ⟨k, e2⟩ <;> rw [e2] <;> rfl
  rcases o with _ | o
  · rfl
  cases o with
  | dic kvs =>
    show _ = oKey (keyD y) kvs h
    have e3 : oItem (some (.dic kvs)) y h = oKey (keyD y) kvs h := rfl
    rw [e3, kk kvs]
    show (match (keyD y).map (getK kvs) with | some (some d) => some (d, h) | some none => none | none => _) = _
    rcases (keyD y).map (getK kvs) with _ | _ | _ <;> rfl
  | rdd kvs =>
    show _ = oKey (keyD y) kvs h
    rw [kk kvs]
    show (match (keyD y).map (getK kvs) with | some (some d) => some (d, h) | some none => none | none => none) = _
    rcases (keyD y).map (getK kvs) with _ | _ | _ <;> rfl
  | dit kvs =>
    show _ = ((keyT y).bind (getK kvs)).map fun d => (d, h)
    rw [kt kvs]
    show (match (keyT y).map (getK kvs) with | some (some d) => some (d, h) | some none => none | none => none) = _
    rcases (keyT y).map (getK kvs) with _ | _ | _ <;> rfl
  | rdt kvs =>
    show _ = ((keyT y).bind (getK kvs)).map fun d => (d, h)
    rw [kt kvs]
    show (match (keyT y).map (getK kvs) with | some (some d) => some (d, h) | some none => none | none => none) = _
    rcases (keyT y).map (getK kvs) with _ | _ | _ <;> rfl
  | lst xs => cases y <;> rfl
  | rdl xs => cases y <;> rfl
  | _ => rfl
theorem itH_t {xs : List D} {j : Int} : itemH (.tup xs) (.int j) h = oD (atI xs j) h := (rfl)
theorem itH_s {xs : List D} {j : Int} : itemH (.stp xs) (.int j) h = oD (atI xs j) h := (rfl)
theorem oIH_d {kvs : List (Key × D)} {y : D} : oIH (some (.dic kvs)) y h = oKey (keyD y) kvs h := (rfl)
theorem oIH_l {xs : List D} {j : Int} : oIH (some (.lst xs)) (.int j) h = oD (atI xs j) h := (rfl)
theorem oIH_r {xs : List D} {j : Int} : oIH (some (.rdl xs)) (.int j) h = oD (atI xs j) h := (rfl)
/-! more operators -/
def oTupF (x : Option Ob) (h : HP) : Option (D × HP) := match x with
  | some (.lst xs) => some (.stp xs, h)
  | some (.rdl xs) => some (.stp xs, h)
  | _ => none
theorem tupF_r : toTupF [.ref i] h = oTupF h[i]? h := by unfold toTupF oTupF; dsimp only; first | done | (rcases h[i]? with _ | o; rfl; cases o <;> rfl)
theorem oTupF_l {xs : List D} : oTupF (some (.lst xs)) h = some (.stp xs, h) := (rfl)
def kTupF (xs : List D) (h : HP) : R D := if xs.length ≤ 1000000 then .ok (.stp xs) h else .bad
theorem mTupF_ap : mTupF t s h = (t s h).bind kTupF := (rfl)
theorem kTupF_ap : kTupF ds h = if ds.length ≤ 1000000 then .ok (.stp ds) h else .bad := (rfl)
def oSeq (x : Option Ob) : Option (List D) := match x with
  | some (.lst xs) => some xs
  | some (.rdl xs) => some xs
  | _ => none
theorem seq_t {xs : List D} : seqD (.tup xs) h = some xs := (rfl)
theorem seq_s {xs : List D} : seqD (.stp xs) h = some xs := (rfl)
theorem seq_r : seqD (.ref i) h = oSeq h[i]? := by unfold seqD oSeq; dsimp only; first | done | (rcases h[i]? with _ | o; rfl; cases o <;> rfl)
theorem oSeq_l {xs : List D} : oSeq (some (.lst xs)) = some xs := (rfl)
def kSt2 (xs ys : List D) (h : HP) : R (List D) := .ok (xs ++ ys) h
def kSt1 (t : MA) (s : SD) (h : HP) (x : Option (List D)) : R (List D) := match x with
  | some xs => (t s h).bind (kSt2 xs)
  | none => .bad
def kSt (t : MA) (s : SD) (x : D) (h : HP) : R (List D) := kSt1 t s h (seqD x h)
theorem mStar_ap : mStar a t s h = (a s h).bind (kSt t s) := by
  unfold mStar
  rfl
theorem kSt_ap : kSt t s x h = kSt1 t s h (seqD x h) := (rfl)
theorem kSt1_s {xs : List D} : kSt1 t s h (some xs) = (t s h).bind (kSt2 xs) := (rfl)
theorem kSt2_ap {xs ys : List D} : kSt2 xs ys h = .ok (xs ++ ys) h := (rfl)
def oLst (x : Option (List D)) (h : HP) : Option (D × HP) := x.map fun xs => (.ref h.length, h ++ [.lst xs])
theorem lst_d : toLst [d] h = oLst (seqD d h) h := (rfl)
theorem oLst_s {xs : List D} : oLst (some xs) h = some (.ref h.length, h ++ [.lst xs]) := (rfl)
def kRev1 (h : HP) (x : Option (List D)) : R D := match x with
  | some xs => .ok (.stp xs.reverse) h
  | none => .bad
def kRev (d : D) (h : HP) : R D := kRev1 h (tupD d)
theorem mTupRev_ap : mTupRev a s h = (a s h).bind kRev := by
  unfold mTupRev
  rfl
theorem kRev_t {xs : List D} : kRev (.tup xs) h = .ok (.stp xs.reverse) h := (rfl)
theorem kRev_s {xs : List D} : kRev (.stp xs) h = .ok (.stp xs.reverse) h := (rfl)
theorem len_st {xs : List D} : lenG [.stp xs] h = some (.int xs.length, h) := (rfl)
theorem min_l {i j : Int} : minL [.int i, .int j] h = some (.int (if j < i then j else i), h) := (rfl)
theorem isi_i {j : Int} : isiG [.int j, .ty "int"] h = some (.bl true, h) := (rfl)
theorem isi_s {u : Str} : isiG [.str u, .ty "int"] h = some (.bl false, h) := (rfl)
theorem oTy_t {kvs : List (List Key × D)} : oTy "dict" (some (.dit kvs)) = true := (rfl)
theorem oTy_d {kvs : List (Key × D)} : oTy "dict" (some (.dic kvs)) = true := (rfl)
def ixK (d : D) (z : Str) (h : HP) : Option Nat := match seqD d h with
  | some xs => match strsD xs with
    | some ys => idxOf z ys
    | none => none
  | none => none
def kIx1 (x : Option Nat) (h : HP) : R D := match x with
  | some j => .ok (.int (j : Nat)) h
  | none => .bad
theorem strs_map : ∀ cs : List Str, strsD (cs.map D.str) = some cs
  | [] => rfl
  | c :: cs => by rw [List.map_cons]; unfold strsD; rw [strs_map cs]; rfl
def kIx (t : MA) (s : SD) (x : D) (h : HP) : R D := if catF.isTup x = true then (bif tyB2 "tuple" x h then (t s h).bind fun xs h => ofO (indexG true x xs h) else .bad) else (bif tyB2 "list" x h then (t s h).bind fun xs h => ofO (indexG false x xs h) else .bad)
theorem mIdx_ap : mIdx a t s h = (a s h).bind (kIx t s) := (rfl)
def kIxs (cs : List Str) (xs : List D) (h : HP) : R D := match xs with
  | [.str z] => kIx1 (idxOf z cs) h
  | _ => .bad
theorem kIx_s {cs : List Str} : kIx t s (.stp (cs.map D.str)) h = (t s h).bind (kIxs cs) := by
  show (t s h).bind _ = _
  congr 1
  funext xs h
  have q := strs_map cs
  have no : ∀ xs : List D, (∀ z, xs ≠ [.str z]) → ofO (indexG true (.stp (cs.map D.str)) xs h) = kIxs cs xs h := fun xs n => by
    rcases xs with _ | ⟨x, _ | ⟨x2, xs⟩⟩
    · rfl
    · cases x <;> first | rfl | exact absurd rfl (n _)
    · cases x <;> rfl
  rcases xs with _ | ⟨x, _ | ⟨x2, xs⟩⟩
  · exact no _ fun z e => by cases e
  · cases x with
    | str z =>
      show ofO (indexG true (.stp (cs.map D.str)) [.str z] h) = kIx1 (idxOf z cs) h
      unfold indexG
      simp only [seqD, q, catF.isTup, if_true]
      rcases idxOf z cs with _ | j <;> rfl
    | _ => exact no _ fun z e => by cases e
  · exact no _ fun z e => by cases e
theorem kIxs_ap {cs : List Str} {z : Str} : kIxs cs [.str z] h = kIx1 (idxOf z cs) h := (rfl)
theorem kIx1_s {j : Nat} : kIx1 (some j) h = .ok (.int j) h := (rfl)
theorem iA_ap : iA a s h = (a s h).bind itA := (rfl)
theorem itA_t {xs : List D} : itA (.tup xs) h = .ok (xs, fun _ => True) h := (rfl)
theorem itA_s {xs : List D} : itA (.stp xs) h = .ok (xs, fun _ => True) h := (rfl)
theorem mLcG_ok {it : MI} {tg : Tg} {cc : MT} {el : ME} {xs : List D} {G : HP → Prop} {h' : HP} (e : it s h = .ok (xs, G) h') : mLcG it tg cc el s h = cLoop G tg cc el (putL h'.length) h'.length xs (wipeD s tg.slots) (h' ++ [.lst []]) := by
  unfold mLcG; rw [e]; rfl
theorem cat_d {x y : D} {xs ys : List D} (e1 : catF.isTup x = true) (e2 : catF.isTup y = true) (e3 : seqD x h = some xs) (e4 : seqD y h = some ys) (n1 : ys ≠ []) (n2 : y = .stp ys ∨ xs ≠ []) (hl : xs.length + ys.length ≤ 1000000) : catF x y h = some (.stp (xs ++ ys), h) := by
  unfold catF
  rw [e3, e4]
  dsimp only
  rw [if_pos ⟨e1, e2, hl⟩]
  cases xs with
  | nil =>
    rcases n2 with rfl | n2
    · rfl
    · exact absurd rfl n2
  | cons x0 xs =>
    cases ys with
    | nil => exact absurd rfl n1
    | cons y0 ys => rfl
end
end PM
end
section
set_option Elab.async false
set_option linter.all false
set_option maxRecDepth 100000
set_option maxHeartbeats 4000000
namespace K21
open PySem L2 PM

def subL : List (Str × Str × Bool) := []
def okE (c : Str) : Bool := decide (c ∈ ([] : List Str))


/-! _law_mix -/
noncomputable def b_u_law_mix : MS := mSeq (mSet 2 (m2 modG (mB toIntG (mCons (m2 addG (m2 addG (m2 mulG (mVar 0) (mC (.int 48271))) (m2 mulG (mVar 1) (mC (.int 69621)))) (mC (.int 11))) (mNil))) (mC (.int 2147483647))))
  (mRet (m2 modG (m2 modG (mB toIntG (mCons (m2 addG (m2 addG (m2 addG (m2 mulG (mVar 2) (mVar 2)) (m2 mulG (mVar 0) (mC (.int 40692)))) (m2 mulG (mVar 1) (mC (.int 7)))) (mC (.int 3))) (mNil))) (mC (.int 1000003))) (mC (.int 1000))))
noncomputable def m_u_law_mix : List D → HP → R D := runDef 3 b_u_law_mix


/-! _law_stream -/
noncomputable def L_u_law_stream_2 : MS := mIfS (mAnd (mTest (m2 gtG (mVar 4) (mC (.int 0)))) (mTest (m2 ltG (mB lenG (mCons (mVar 2) (mNil))) (mVar 1)))) (mSeq (mDrop (mMeth "list" appendG (mVar 2) (mCons (m2 modG (mB toIntG (mCons (mVar 4) (mNil))) (mC (.int 1000))) (mNil))))
  (mSet 4 (m2 fdivG (mVar 4) (mC (.int 1000))))) (mNext)
noncomputable def L_u_law_stream_3 : MS := mIfS (mTest (m2 ltG (mB lenG (mCons (mVar 2) (mNil))) (mVar 1))) (mDrop (mMeth "list" appendG (mVar 2) (mCons (mCall m_u_law_mix (mCons (mVar 4) (mCons (m2 addG (m2 mulG (mC (.int 64)) (mVar 5)) (mVar 3)) (mNil)))) (mNil)))) (mNext)
noncomputable def L_u_law_stream_1 : MS := mSeq (mSet 4 (m2 itemH (mVar 0) (mVar 3)))
  (mIfS (mTest (m2 geG (mVar 4) (m2 powG (mC (.int 10)) (mC (.int 18))))) (mFor (iR1 (mCons (mC (.int 60)) (mNil))) (gN 5) L_u_law_stream_2) (mFor (iR1 (mCons (mC (.int 3)) (mNil))) (gN 5) L_u_law_stream_3))
noncomputable def b_u_law_stream : MS := mSeq (mSet 2 (mLst (mNil)))
  (mSeq (mFor (iR1 (mCons (mB minL (mCons (mB lenG (mCons (mVar 0) (mNil))) (mCons (mC (.int 63)) (mNil)))) (mNil))) (gN 3) L_u_law_stream_1)
  (mRet (mDisp [(mC (.str "row"), mVar 2), (mC (.str "at"), mC (.int 0)), (mC (.str "seed"), mB lenG (mCons (mVar 2) (mNil)))])))
noncomputable def m_u_law_stream : List D → HP → R D := runDef 6 b_u_law_stream


/-! _law_pick -/
noncomputable def b_u_law_pick : MS := mSeq (mSet 2 (m2 itemH (mVar 0) (mC (.str "at"))))
  (mSeq (mPutD (m2 addG (mVar 2) (mC (.int 1))) (mVar 0) (mC (.str "at")))
  (mSeq (mSet 3 (mCall m_u_law_mix (mCons (m2 itemH (mVar 0) (mC (.str "seed"))) (mCons (mVar 2) (mNil)))))
  (mSeq (mIfS (mTest (m2 ltG (mVar 2) (mB lenG (mCons (m2 itemH (mVar 0) (mC (.str "row"))) (mNil))))) (mSet 3 (m2 itemH (m2 itemH (mVar 0) (mC (.str "row"))) (mVar 2))) (mNext))
  (mRet (m2 modG (mB toIntG (mCons (mVar 3) (mNil))) (mVar 1))))))
noncomputable def m_u_law_pick : List D → HP → R D := runDef 4 b_u_law_pick


/-! _law_value -/
noncomputable def b_u_law_value : MS := mSeq (mIfS (mTest (m2 (eqG false) (mVar 1) (mC (.str "n")))) (mRet (m2 itemH (mLst (mCons (mC (.str "")) (mCons (mC (.str "a")) (mCons (mC (.str "b")) (mNil))))) (mCall m_u_law_pick (mCons (mVar 0) (mCons (mC (.int 3)) (mNil)))))) (mNext))
  (mRet (m2 itemH (mLst (mCons (mC (.int 0)) (mCons (mC (.int 1)) (mCons (mC (.int 2)) (mCons (m1 negG (mC (.int 1))) (mCons (mC (.int 5)) (mNil))))))) (mCall m_u_law_pick (mCons (mVar 0) (mCons (mC (.int 5)) (mNil))))))
noncomputable def m_u_law_value : List D → HP → R D := runDef 2 b_u_law_value


/-! order_of -/
noncomputable def b_order_of : MS := mRet (mIfE (mTest (mB isiG (mCons (mVar 0) (mCons (mC (.ty "int")) (mNil))))) (mTup (mCons (mC (.int 0)) (mCons (mVar 0) (mNil)))) (mTup (mCons (mC (.int 1)) (mCons (mVar 0) (mNil)))))
noncomputable def m_order_of : List D → HP → R D := runDef 1 b_order_of


/-! _order_of_row -/
noncomputable def b_u_order_of_row : MS := mRet (mLcG (iA (mVar 0)) (.one 1) (mYes) (mCall m_order_of (mCons (mVar 1) (mNil))))
noncomputable def m_u_order_of_row : List D → HP → R D := runDef 2 b_u_order_of_row


/-! rows_in_order -/
noncomputable def b_rows_in_order : MS := mSeq (mSet 1 (mDc (dEo true) (iA (mVar 0)) (.one 2) (mYes) (mVar 2) (mC (.bl true))))
  (mRet (mB toTupG (mCons (mSrtK m_u_order_of_row (mCons (mVar 1) mNil)) (mNil))))
noncomputable def m_rows_in_order : List D → HP → R D := runDef 3 b_rows_in_order


/-! _values_in -/
noncomputable def b_u_values_in : MS := mSeq (mAsg (PM.gTup 2 (PM.gCons (gN 2) (PM.gCons (gN 3) (PM.gNil)))) (mVar 0))
  (mSeq (mSet 4 (mLcG (iA (mVar 1)) (.one 5) (mYes) (mIdx (mVar 2) (mCons (mVar 5) (mNil)))))
  (mRet (mLcG (iA (mVar 3)) (.one 7) (mYes) (mB toTupG (mCons (mLcG (iA (mVar 4)) (.one 6) (mYes) (m2 itemH (mVar 7) (mVar 6))) (mNil))))))
noncomputable def m_u_values_in : List D → HP → R D := runDef 8 b_u_values_in


/-! make_table -/
noncomputable def b_make_table : MS := mSeq (mSet 2 (mB toTupF (mCons (mB srtG (mCons (mVar 0) (mNil))) (mNil))))
  (mRet (mTup (mCons (mVar 2) (mCons (mCall m_rows_in_order (mCons (mCall m_u_values_in (mCons (mTup (mCons (mVar 0) (mCons (mVar 1) (mNil)))) (mCons (mVar 2) (mNil)))) (mNil))) (mNil)))))
noncomputable def m_make_table : List D → HP → R D := runDef 3 b_make_table


/-! _law_worked -/
noncomputable def L_u_law_worked_1 : MS := mSeq (mSet 4 (m2 addG (mVar 4) (mVar 5)))
  (mSeq (mIfS (mTest (m2 ltG (mVar 5) (mVar 2))) (mSet 2 (mVar 5)) (mNext))
  (mIfS (mTest (m2 gtG (mVar 5) (mVar 3))) (mSet 3 (mVar 5)) (mNext)))
noncomputable def b_u_law_worked : MS := mSeq (mSet 2 (m2 itemH (mVar 1) (mC (.int 0))))
  (mSeq (mSet 3 (m2 itemH (mVar 1) (mC (.int 0))))
  (mSeq (mSet 4 (mC (.int 0)))
  (mSeq (mFor (iA (mVar 1)) (gN 5) L_u_law_worked_1)
  (mRet (m2 itemH (mDisp [(mC (.str "count"), mB lenG (mCons (mVar 1) (mNil))), (mC (.str "sum"), mVar 4), (mC (.str "least"), mVar 2), (mC (.str "most"), mVar 3)]) (mVar 0))))))
noncomputable def m_u_law_worked : List D → HP → R D := runDef 6 b_u_law_worked


/-! _law_due -/
noncomputable def L_u_law_due_1 : MS := mSeq (mSet 8 (mB toTupG (mCons (mLcG (iA (mVar 5)) (.one 9) (mYes) (m2 itemH (mVar 7) (mIdx (mVar 0) (mCons (mVar 9) (mNil))))) (mNil))))
  (mIfS (mTest (m2 (inH true) (mVar 8) (mVar 6))) (mDrop (mMeth "list" appendG (mVar 6) (mCons (mVar 8) (mNil)))) (mNext))
noncomputable def L_u_law_due_2 : MS := mSeq (mSet 11 (mLcG (iA (mVar 1)) (.one 7) (mTest (m2 (eqG false) (mB toTupG (mCons (mLcG (iA (mVar 5)) (.one 9) (mYes) (m2 itemH (mVar 7) (mIdx (mVar 0) (mCons (mVar 9) (mNil))))) (mNil))) (mVar 8))) (mVar 7)))
  (mSeq (mSet 12 (m2 mulL (mLst (mCons (mC (.int 0)) (mNil))) (mB lenG (mCons (mVar 11) (mNil)))))
  (mSeq (mIfS (mTest (m2 (isG true) (mVar 4) (mC .non))) (mSet 12 (mLcG (iA (mVar 11)) (.one 7) (mYes) (m2 itemH (mVar 7) (mIdx (mVar 0) (mCons (mVar 4) (mNil)))))) (mNext))
  (mDrop (mMeth "list" appendG (mVar 10) (mCons (m2 catF (mVar 8) (mTup (mCons (mCall m_u_law_worked (mCons (mVar 3) (mCons (mVar 12) (mNil)))) (mNil)))) (mNil))))))
noncomputable def b_u_law_due : MS := mSeq (mSet 6 (mLst (mNil)))
  (mSeq (mFor (iA (mVar 1)) (gN 7) L_u_law_due_1)
  (mSeq (mSet 10 (mLst (mNil)))
  (mSeq (mFor (iA (mVar 6)) (gN 8) L_u_law_due_2)
  (mRet (mCall m_make_table (mCons (m2 catF (mVar 5) (mTupF (mCons (mVar 2) (mNil)))) (mCons (mVar 10) (mNil))))))))
noncomputable def m_u_law_due : List D → HP → R D := runDef 13 b_u_law_due


/-! value_over -/
noncomputable def b_value_over : MS := mSeq (mIfS (mTest (m2 (eqG false) (mVar 0) (mC (.str "count")))) (mRet (mB lenG (mCons (mVar 1) (mNil)))) (mNext))
  (mSeq (mSet 2 (mLcG (iA (mVar 1)) (.one 3) (mYes) (m2 itemH (mVar 3) (mC (.int 0)))))
  (mSeq (mIfS (mTest (m2 (eqG false) (mVar 0) (mC (.str "sum")))) (mRet (mB sumL (mCons (mVar 2) (mNil)))) (mNext))
  (mRet (mIfE (mTest (m2 (eqG false) (mVar 0) (mC (.str "least")))) (mB minL (mCons (mVar 2) (mNil))) (mB maxL (mCons (mVar 2) (mNil)))))))
noncomputable def m_value_over : List D → HP → R D := runDef 4 b_value_over


/-! group -/
noncomputable def L_group_1 : MS := mDrop (mMeth "list" appendG (mMeth "dict" setdG (mVar 6) (mCons (mVar 7) (mCons (mLst (mNil)) (mNil)))) (mCons (mVar 8) (mNil)))
noncomputable def b_group : MS := mSeq (mSet 5 (mIfE (mTest (m2 (isG false) (mVar 3) (mC .non))) (mVar 4) (mTup (mCons (mVar 3) (mNil)))))
  (mSeq (mSet 6 (mDictT))
  (mSeq (mFor (iZ (mCons (mCall m_u_values_in (mCons (mVar 0) (mCons (mVar 4) (mNil)))) (mCons (mCall m_u_values_in (mCons (mVar 0) (mCons (mVar 5) (mNil)))) (mNil)))) (PM.gTup 2 (PM.gCons (gN 7) (PM.gCons (gN 8) (PM.gNil)))) L_group_1)
  (mRet (mCall m_make_table (mCons (mTupF (mStar (mVar 4) (mCons (mVar 1) (mNil)))) (mCons (mLockE 6 (mLcG (iItemsM (mVar 6)) (.many [7, 9]) (mYes) (mTup (mStar (mVar 7) (mCons (mCall m_value_over (mCons (mVar 2) (mCons (mVar 9) (mNil)))) (mNil)))))) (mNil)))))))
noncomputable def m_group : List D → HP → R D := runDef 10 b_group


/-! law -/
noncomputable def L_law_2 : MS := mDrop (mMeth "list" appendG (mVar 4) (mCons (mB toTupG (mCons (mLcG (iA (mVar 3)) (.one 6) (mYes) (mCall m_u_law_value (mCons (mVar 1) (mCons (mVar 6) (mNil))))) (mNil))) (mNil)))
noncomputable def L_law_3 : MS := mSeq (mSet 10 (mC .non))
  (mSeq (mSet 11 (mLcG (iA (mVar 3)) (.one 6) (mTest (m2 (eqG true) (mVar 6) (mC (.str "n")))) (mVar 6)))
  (mSeq (mIfS (mTest (m2 (eqG true) (mVar 9) (mC (.str "count")))) (mSet 10 (m2 itemH (mVar 11) (mCall m_u_law_pick (mCons (mVar 1) (mCons (mB lenG (mCons (mVar 11) (mNil))) (mNil)))))) (mNext))
  (mSeq (mSet 12 (mCall m_u_law_due (mCons (mVar 3) (mCons (mB toLst (mCons (m2 itemH (mVar 7) (mC (.int 1))) (mNil))) (mCons (m2 itemH (mLst (mCons (mC (.str "w")) (mCons (mC (.str "a.1")) (mCons (mC (.str "z")) (mNil))))) (m2 modG (mVar 2) (mC (.int 3)))) (mCons (mVar 9) (mCons (mVar 10) (mCons (mVar 8) (mNil)))))))))
  (mIfS (mTest (m2 (eqG true) (mCall m_group (mCons (mVar 7) (mCons (m2 itemH (mLst (mCons (mC (.str "w")) (mCons (mC (.str "a.1")) (mCons (mC (.str "z")) (mNil))))) (m2 modG (mVar 2) (mC (.int 3)))) (mCons (mVar 9) (mCons (mVar 10) (mCons (mVar 8) (mNil))))))) (mVar 12))) (mRet (mC (.bl false))) (mNext)))))
noncomputable def L_law_1 : MS := mSeq (mSet 3 (mB toTupF (mCons (mSl slL (mLst (mCons (mC (.str "n")) (mCons (mC (.str "x")) (mCons (mC (.str "y")) (mNil))))) (mPart (mCall m_u_law_pick (mCons (mVar 1) (mCons (mC (.int 3)) (mNil))))) mNoPart) (mNil))))
  (mSeq (mSet 4 (mLst (mNil)))
  (mSeq (mFor (iR1 (mCons (mCall m_u_law_pick (mCons (mVar 1) (mCons (mC (.int 11)) (mNil)))) (mNil))) (gN 5) L_law_2)
  (mSeq (mSet 7 (mCall m_make_table (mCons (mVar 3) (mCons (mVar 4) (mNil)))))
  (mSeq (mSet 8 (mB toTupF (mCons (mLcG (iA (mVar 3)) (.one 6) (mTest (m2 (eqG false) (mCall m_u_law_pick (mCons (mVar 1) (mCons (mC (.int 2)) (mNil)))) (mC (.int 0)))) (mVar 6)) (mNil))))
  (mSeq (mIfS (mTest (m2 (eqG false) (mCall m_u_law_pick (mCons (mVar 1) (mCons (mC (.int 2)) (mNil)))) (mC (.int 0)))) (mSet 8 (mTupRev (mVar 8))) (mNext))
  (mFor (iA (mLst (mCons (mC (.str "count")) (mCons (mC (.str "sum")) (mCons (mC (.str "least")) (mCons (mC (.str "most")) (mNil))))))) (gN 9) L_law_3))))))
noncomputable def b_law : MS := mSeq (mSet 1 (mCall m_u_law_stream (mCons (mVar 0) (mCons (mC (.int 300)) (mNil)))))
  (mSeq (mFor (iR1 (mCons (mC (.int 4)) (mNil))) (gN 2) L_law_1)
  (mRet (mC (.bl true))))
noncomputable def m_law : List D → HP → R D := runDef 13 b_law

end K21
end
section
set_option Elab.async false
set_option linter.all false
set_option maxRecDepth 100000
set_option maxHeartbeats 1000000
namespace K21
open PySem L2 PM
local macro_rules | `(tactic| walk_at "pm") => `(tactic| simp only [bind_ok, toS_ok, seq_nx, seq_rt, seq_bk, seq_ct, seq_exc, bind_exc, toS_exc, mSeq_ap, mNext_ap, mSet_ap, kSet_ap, mAsg_ap, kAsg_ap, ofS_some, gN_ap, gTup_ap, gCons_ap, gNil_ap, mDrop_ap, kDrop_ap, mRet_ap, mRetN_ap, mIfS_ap, kIf_t, kIf_f, mBreak_ap, mCont_ap, mBad_ap, mAug_ap, kAug_ap, mVar_ap, mC_ap, m1_ap, k1_ap, m2_ap, k2_ap, k2'_ap, ofO_some, mNil_ap, mCons_ap, kC_ap, kC'_ap, mCall_ap, mB_ap, kB_ap, mMeth_ap, kM_ap, kM'_ap, mTest_ap, kBl_ap, mNot_ap, kNot_ap, mAnd_ap, kAnd_t, kAnd_f, mOr_ap, kOr_t, kOr_f, mIfE_ap, kIfE_t, kIfE_f, mAndV_ap, kAndV_t, kAndV_f, mOrV_ap, kOrV_t, kOrV_f, mNotV_ap, kNotV_ap, mTup_ap, kTup_ap, mLst_ap, kLst_ap, mNoPart_ap, mPart_ap, kInt_ap, mSl_ap, kSl1_ap, kSl2_ap, kSl3_ap, mChain_ap, kCh0_ap, kCh1_ap, kCh2_t, kCh2_f, kCh3_ap, mPutD_ap, kP1_ap, kP2_ap, kP3_ap, runDef_ap, fin_nx, fin_rt, fin_exc, mYes_ap, add_ii, iadd_ii, add_ss, sub_ii, mul_ii, mul_si, mod_ii, fdiv_ii, pow_ii, neg_i, ord_ii, ord_ss, eq_ii, ne_ii, eq_ss, ne_ss, is_non, isn_non, int_i, len_s, len_t, min_ii, sl_s, in_c, nin_c, split_s, str1_ss, find4_s, ty_str, ord_c, iR1_ap, itR1_i, iS_ap, itS_s, iT_ap, itT_t, iE_ap, oD_some, len_r, oLen_l, oLen_r, oKey_s, it_ref, itH_r, itH_t, itH_s, oIH_d, oIH_l, oIH_r, tupF_r, oTupF_l, mTupF_ap, kTupF_ap, seq_t, seq_s, seq_r, oSeq_l, mStar_ap, kSt_ap, kSt1_s, kSt2_ap, lst_d, oLst_s, mTupRev_ap, kRev_t, kRev_s, len_st, min_l, oTy_t, oTy_d, isi_i, isi_s, mIdx_ap, kIx_s, kIxs_ap, kIx1_s, iA_ap, itA_t, itA_s, oItem_d, oItem_l, oItem_r, it_tup, oC_some, it_str, keyD_s, keyD_i, app_r, oApp_l, ext_r, oExt_l, ty_ref, oTy_l, isi_ref, oIsi_l, put_ref, oPut_d, oPutK_s, oBls_s, all_r, oAll_l, tup_r, oTup_l, itE_r, oEnum_l, List.map_cons, List.map_nil, List.length_cons, List.length_nil, List.replicate, List.cons_append, List.nil_append, List.set_cons_zero, List.set_cons_succ, List.getElem?_cons_zero, List.getElem?_cons_succ, Nat.reduceSub, Nat.reduceAdd, Nat.reduceLeDiff, Nat.reduceLT,  cond_true, cond_false, if_true, if_false, ite_true, ite_false, Bool.false_eq_true, reduceIte, Nat.zero_add, Option.bind_some, ne_eq, Int.reduceEq, not_false_eq_true, not_true_eq_false, decide_true, decide_false, Bool.not_true, Bool.not_false, *])

def lowF (c k : Int) : Int := (c * 48271 + k * 69621 + 11).fmod 2147483647
def mixF (c k : Int) : Int := ((lowF c k * lowF c k + c * 40692 + k * 7 + 3).fmod 1000003).fmod 1000
theorem fmod_range (a b : Int) (h : 0 < b) : 0 ≤ a.fmod b ∧ a.fmod b < b := ⟨Int.fmod_nonneg_of_pos a h, Int.fmod_lt_of_pos a h⟩
theorem mix_ok (c k : Int) (h : HP) : m_u_law_mix [.int c, .int k] h = .ok (.int (mixF c k)) h := by
  unfold m_u_law_mix b_u_law_mix
  have e1 : cMul c 48271 = true := cMul_r (by omega)
  have e2 : cMul k 69621 = true := cMul_r (by omega)
  have e3 : cMul c 40692 = true := cMul_r (by omega)
  have e4 : cMul k 7 = true := cMul_r (by omega)
  have e5 : cMul (lowF c k) (lowF c k) = true := cMul_r (by
    have := fmod_range (c * 48271 + k * 69621 + 11) 2147483647 (by omega)
    unfold lowF; omega)
  unfold lowF at e5
  walk_at "pm"
  rfl

/-! the draws -/
/-- the draws' dict at i, its row at j -/
structure St (h : HP) (i j : Nat) (row : List Int) (n : Nat) : Prop where
  d : h[i]? = some (.dic [(.inr "row", .ref j), (.inr "at", .int n), (.inr "seed", .int row.length)])
  r : h[j]? = some (.lst (row.map D.int))
  z : row.length ≤ 1000
/-- all but i is as it was -/
structure Fr (i : Nat) (h h' : HP) : Prop where
  len : h.length ≤ h'.length
  at' : ∀ (k : Nat) (o : Ob), k ≠ i → h[k]? = some o → h'[k]? = some o
theorem Fr.refl (i : Nat) (h : HP) : Fr i h h := ⟨Nat.le_refl _, fun _ _ _ e => e⟩
theorem Fr.trans {i : Nat} {a b c : HP} (x : Fr i a b) (y : Fr i b c) : Fr i a c := ⟨Nat.le_trans x.len y.len, fun k o n e => y.at' k o n (x.at' k o n e)⟩
theorem Fr.app (i : Nat) (h l : HP) : Fr i h (h ++ l) := ⟨by simp, fun k o _ e => by
  have hk : k < h.length := (List.getElem?_eq_some_iff.mp e).1
  rw [List.getElem?_append_left hk]; exact e⟩
theorem Fr.set (i : Nat) (h : HP) (o : Ob) : Fr i h (h.set i o) := ⟨by simp, fun k o' n e => by rw [List.getElem?_set_ne (Ne.symm n)]; exact e⟩
theorem get_lt {α : Type} {l : List α} {i : Nat} {x : α} (e : l[i]? = some x) : i < l.length := (List.getElem?_eq_some_iff.mp e).1
theorem St.app {h : HP} {i j : Nat} {row : List Int} {n : Nat} (s : St h i j row n) (l : HP) : St (h ++ l) i j row n :=
  ⟨by rw [List.getElem?_append_left (get_lt s.d)]; exact s.d, by rw [List.getElem?_append_left (get_lt s.r)]; exact s.r, s.z⟩
theorem St.ne {h : HP} {i j : Nat} {row : List Int} {n : Nat} (s : St h i j row n) : j ≠ i := fun e => by
  have := s.r; rw [e, s.d] at this; cases this
def pkF (row : List Int) (n : Nat) : Int := if n < row.length then row.getD n 0 else mixF row.length n
theorem pick_ok {h : HP} {i j : Nat} {row : List Int} {n : Nat} (s : St h i j row n) {m : Int} (hm : m ≠ 0) :
    ∃ h', m_u_law_pick [.ref i, .int m] h = .ok (.int ((pkF row n).fmod m)) h' ∧ St h' i j row (n + 1) ∧ Fr i h h' ∧ h'.length = h.length := by
  obtain ⟨sd, sr, sz⟩ := s
  have hij : j ≠ i := St.ne ⟨sd, sr, sz⟩
  have g1 : getK [((.inr "row" : Key), D.ref j), (.inr "at", .int n), (.inr "seed", .int row.length)] (.inr "at") = some (.int n) := rfl
  have k1 : keyD (.str "at") = some (.inr "at") := rfl
  have k2 : keyD (.str "seed") = some (.inr "seed") := rfl
  have k3 : keyD (.str "row") = some (.inr "row") := rfl
  have e1 : setK [((.inr "row" : Key), D.ref j), (.inr "at", .int n), (.inr "seed", .int row.length)] (.inr "at") (.int (n + 1)) = [(.inr "row", .ref j), (.inr "at", .int (n + 1)), (.inr "seed", .int row.length)] := rfl
  have s2 : (h.set i (.dic [((.inr "row" : Key), D.ref j), (.inr "at", .int (n + 1)), (.inr "seed", .int row.length)]))[i]? = some (.dic [(.inr "row", .ref j), (.inr "at", .int (n + 1)), (.inr "seed", .int row.length)]) := List.getElem?_set_self (get_lt sd)
  have r2 : (h.set i (.dic [((.inr "row" : Key), D.ref j), (.inr "at", .int (n + 1)), (.inr "seed", .int row.length)]))[j]? = some (.lst (row.map D.int)) := by rw [List.getElem?_set_ne (Ne.symm hij)]; exact sr
  have g2 : getK [((.inr "row" : Key), D.ref j), (.inr "at", .int (n + 1)), (.inr "seed", .int row.length)] (.inr "seed") = some (.int row.length) := rfl
  have g3 : getK [((.inr "row" : Key), D.ref j), (.inr "at", .int (n + 1)), (.inr "seed", .int row.length)] (.inr "row") = some (.ref j) := rfl
  refine ⟨h.set i (.dic [((.inr "row" : Key), D.ref j), (.inr "at", .int (n + 1)), (.inr "seed", .int row.length)]), ?_, ⟨s2, r2, sz⟩, Fr.set _ _ _, by simp⟩
  unfold m_u_law_pick b_u_law_pick
  have mx := mix_ok row.length n
  have hl : (row.map D.int).length = row.length := by simp
  by_cases c : n < row.length
  · have c' : ((n : Int) < (row.length : Int)) = True := by simp; omega
    have ga : atI (row.map D.int) (n : Int) = some (.int (row.getD n 0)) := by
      refine atI_nat ?_
      rw [List.getElem?_map, List.getElem?_eq_getElem c, List.getD_eq_getElem?_getD, List.getElem?_eq_getElem c]; rfl
    walk_at "pm"
    unfold pkF; rw [if_pos c]
  · have c' : ((n : Int) < (row.length : Int)) = False := by simp; omega
    walk_at "pm"
    unfold pkF; rw [if_neg c]
end K21
end
section
set_option Elab.async false
set_option linter.all false
set_option maxRecDepth 100000
set_option maxHeartbeats 1000000
namespace K21
open PySem L2 PM
local macro_rules | `(tactic| walk_at "pm") => `(tactic| simp only [bind_ok, toS_ok, seq_nx, seq_rt, seq_bk, seq_ct, seq_exc, bind_exc, toS_exc, mSeq_ap, mNext_ap, mSet_ap, kSet_ap, mAsg_ap, kAsg_ap, ofS_some, gN_ap, gTup_ap, gCons_ap, gNil_ap, mDrop_ap, kDrop_ap, mRet_ap, mRetN_ap, mIfS_ap, kIf_t, kIf_f, mBreak_ap, mCont_ap, mBad_ap, mAug_ap, kAug_ap, mVar_ap, mC_ap, m1_ap, k1_ap, m2_ap, k2_ap, k2'_ap, ofO_some, mNil_ap, mCons_ap, kC_ap, kC'_ap, mCall_ap, mB_ap, kB_ap, mMeth_ap, kM_ap, kM'_ap, mTest_ap, kBl_ap, mNot_ap, kNot_ap, mAnd_ap, kAnd_t, kAnd_f, mOr_ap, kOr_t, kOr_f, mIfE_ap, kIfE_t, kIfE_f, mAndV_ap, kAndV_t, kAndV_f, mOrV_ap, kOrV_t, kOrV_f, mNotV_ap, kNotV_ap, mTup_ap, kTup_ap, mLst_ap, kLst_ap, mNoPart_ap, mPart_ap, kInt_ap, mSl_ap, kSl1_ap, kSl2_ap, kSl3_ap, mChain_ap, kCh0_ap, kCh1_ap, kCh2_t, kCh2_f, kCh3_ap, mPutD_ap, kP1_ap, kP2_ap, kP3_ap, runDef_ap, fin_nx, fin_rt, fin_exc, mYes_ap, add_ii, iadd_ii, add_ss, sub_ii, mul_ii, mul_si, mod_ii, fdiv_ii, pow_ii, neg_i, ord_ii, ord_ss, eq_ii, ne_ii, eq_ss, ne_ss, is_non, isn_non, int_i, len_s, len_t, min_ii, sl_s, in_c, nin_c, split_s, str1_ss, find4_s, ty_str, ord_c, iR1_ap, itR1_i, iS_ap, itS_s, iT_ap, itT_t, iE_ap, oD_some, len_r, oLen_l, oLen_r, oKey_s, it_ref, itH_r, itH_t, itH_s, oIH_d, oIH_l, oIH_r, tupF_r, oTupF_l, mTupF_ap, kTupF_ap, seq_t, seq_s, seq_r, oSeq_l, mStar_ap, kSt_ap, kSt1_s, kSt2_ap, lst_d, oLst_s, mTupRev_ap, kRev_t, kRev_s, len_st, min_l, oTy_t, oTy_d, isi_i, isi_s, mIdx_ap, kIx_s, kIxs_ap, kIx1_s, iA_ap, itA_t, itA_s, oItem_d, oItem_l, oItem_r, it_tup, oC_some, it_str, keyD_s, keyD_i, app_r, oApp_l, ext_r, oExt_l, ty_ref, oTy_l, isi_ref, oIsi_l, put_ref, oPut_d, oPutK_s, oBls_s, all_r, oAll_l, tup_r, oTup_l, itE_r, oEnum_l, List.map_cons, List.map_nil, List.length_cons, List.length_nil, List.replicate, List.cons_append, List.nil_append, List.set_cons_zero, List.set_cons_succ, List.getElem?_cons_zero, List.getElem?_cons_succ, Nat.reduceSub, Nat.reduceAdd, Nat.reduceLeDiff, Nat.reduceLT,  cond_true, cond_false, if_true, if_false, ite_true, ite_false, Bool.false_eq_true, reduceIte, Nat.zero_add, Option.bind_some, ne_eq, Int.reduceEq, not_false_eq_true, not_true_eq_false, decide_true, decide_false, Bool.not_true, Bool.not_false, *])

theorem loop_inv {g : MG} {p : MS} {Inv : SD → HP → Prop} : ∀ {ds : List D} {s : SD} {h : HP}, (∀ d ∈ ds, ∀ s h, Inv s h → ∃ s1 s2 h2, g d s = some s1 ∧ p s1 h = .nx s2 h2 ∧ Inv s2 h2) → Inv s h →
    ∃ s2 h2, mLoop (fun _ => True) g p ds s h = .nx s2 h2 ∧ Inv s2 h2
  | [], s, h, _, i => ⟨s, h, mLoop_nil trivial, i⟩
  | d :: ds, s, h, st, i => by
    obtain ⟨s1, s2, h2, e1, e2, i2⟩ := st d List.mem_cons_self s h i
    obtain ⟨s3, h3, e3, i3⟩ := loop_inv (fun d hd => st d (List.mem_cons_of_mem _ hd)) i2
    exact ⟨s3, h3, by rw [mLoop_nx trivial e1 (.inl e2), e3], i3⟩
theorem loop_idx {g : MG} {p : MS} {Inv : Nat → SD → HP → Prop} : ∀ {n k : Nat} {s : SD} {h : HP}, (∀ m, k ≤ m → m < k + n → ∀ s h, Inv m s h → ∃ s1 s2 h2, g (.int (0 + (m : Int))) s = some s1 ∧ p s1 h = .nx s2 h2 ∧ Inv (m + 1) s2 h2) → Inv k s h →
    ∃ s2 h2, mLoop (fun _ => True) g p ((List.range' k n).map fun (i : Nat) => .int (0 + (i : Int))) s h = .nx s2 h2 ∧ Inv (k + n) s2 h2
  | 0, k, s, h, _, i => ⟨s, h, mLoop_nil trivial, i⟩
  | n + 1, k, s, h, st, i => by
    obtain ⟨s1, s2, h2, e1, e2, i2⟩ := st k (Nat.le_refl _) (by omega) s h i
    obtain ⟨s3, h3, e3, i3⟩ := loop_idx (n := n) (k := k + 1) (fun m h1 h2 => st m (by omega) (by omega)) i2
    refine ⟨s3, h3, ?_, by rw [show k + (n + 1) = k + 1 + n by omega]; exact i3⟩
    rw [List.range'_succ, List.map_cons, mLoop_nx trivial e1 (.inl e2), e3]
/-! the stream -/
structure SI (X : List D) (k : D) (s : SD) (h : HP) : Prop where
  ex : ∃ (r : Int) (x5 : Option D) (row : List Int), s = [some (.ref 0), some (.int 300), some (.ref 1), some k, some (.int r), x5] ∧ h = [.rdl X, .lst (row.map D.int)] ∧ row.length ≤ 300
theorem row_app {row : List Int} {x : Int} : (row.map D.int ++ [D.int x]) = (row ++ [x]).map D.int := by simp
theorem st2 {X : List D} {d : D} {k : Int} {s : SD} {h : HP} (i : SI X (.int k) s h) : ∃ s1 s2 h2, gN 5 d s = some s1 ∧ L_u_law_stream_2 s1 h = .nx s2 h2 ∧ SI X (.int k) s2 h2 := by
  obtain ⟨r, x5, row, rfl, rfl, hl⟩ := i
  refine ⟨[some (.ref 0), some (.int 300), some (.ref 1), some (.int k), some (.int r), some d], ?_⟩
  have ln : ((row.map D.int).length : Int) = (row.length : Int) := by simp
  have ll : (row.map D.int).length < 1000000 := by simp; omega
  have fd : ∀ h, fdivG (.int r) (.int 1000) h = some (.int (r.fdiv 1000), h) := fun h => fdiv_ii ⟨by omega, by decide⟩
  have ra := @row_app row (r.fmod 1000)
  by_cases c1 : (0 : Int) < r
  · by_cases c2 : (row.length : Int) < 300
    · refine ⟨_, _, rfl, ?_, ⟨r.fdiv 1000, some d, row ++ [r.fmod 1000], rfl, rfl, by simp; omega⟩⟩
      unfold L_u_law_stream_2
      have c1' := eq_true c1
      have c2' := eq_true c2
      clear c1 c2
      walk_at "pm"
    · refine ⟨_, _, rfl, ?_, ⟨r, some d, row, rfl, rfl, hl⟩⟩
      unfold L_u_law_stream_2
      have c1' := eq_true c1
      have c2' := eq_false c2
      clear c1 c2 ra
      walk_at "pm"
  · refine ⟨_, _, rfl, ?_, ⟨r, some d, row, rfl, rfl, hl⟩⟩
    unfold L_u_law_stream_2
    have c1' := eq_false c1
    clear c1 ra
    walk_at "pm"
theorem st3 {X : List D} {d k : Int} {s : SD} {h : HP} (i : SI X (.int k) s h) : ∃ s1 s2 h2, gN 5 (.int d) s = some s1 ∧ L_u_law_stream_3 s1 h = .nx s2 h2 ∧ SI X (.int k) s2 h2 := by
  obtain ⟨r, x5, row, rfl, rfl, hl⟩ := i
  refine ⟨[some (.ref 0), some (.int 300), some (.ref 1), some (.int k), some (.int r), some (.int d)], ?_⟩
  have ln : ((row.map D.int).length : Int) = (row.length : Int) := by simp
  have ll : (row.map D.int).length < 1000000 := by simp; omega
  have mx := mix_ok r (64 * d + k)
  have cm : cMul 64 d = true := cMul_l (by omega)
  have ra := @row_app row (mixF r (64 * d + k))
  by_cases c2 : (row.length : Int) < 300
  · refine ⟨_, _, rfl, ?_, ⟨r, some (.int d), row ++ [mixF r (64 * d + k)], rfl, rfl, by simp; omega⟩⟩
    unfold L_u_law_stream_3
    have c2' := eq_true c2
    clear c2
    walk_at "pm"
  · refine ⟨_, _, rfl, ?_, ⟨r, some (.int d), row, rfl, rfl, hl⟩⟩
    unfold L_u_law_stream_3
    have c2' := eq_false c2
    clear c2 ra
    walk_at "pm"
structure SJ (X : List D) (s : SD) (h : HP) : Prop where
  ex : ∃ (x3 x4 x5 : Option D) (row : List Int), s = [some (.ref 0), some (.int 300), some (.ref 1), x3, x4, x5] ∧ h = [.rdl X, .lst (row.map D.int)] ∧ row.length ≤ 300
theorem st1 {ns : List Int} {k : Nat} {s : SD} {h : HP} (hk : k < ns.length) (i : SJ (ns.map D.int) s h) : ∃ s1 s2 h2, gN 3 (.int (0 + (k : Int))) s = some s1 ∧ L_u_law_stream_1 s1 h = .nx s2 h2 ∧ SJ (ns.map D.int) s2 h2 := by
  obtain ⟨x3, x4, x5, row, rfl, rfl, hl⟩ := i
  refine ⟨[some (.ref 0), some (.int 300), some (.ref 1), some (.int (0 + (k : Int))), x4, x5], ?_⟩
  have ha : atI (ns.map D.int) (0 + (k : Int)) = some (.int (ns.getD k 0)) := by
    rw [Int.zero_add]
    refine atI_nat ?_
    rw [List.getElem?_map, List.getElem?_eq_getElem hk, List.getD_eq_getElem?_getD, List.getElem?_eq_getElem hk]; rfl
  generalize ns.getD k 0 = r at ha
  have pw : ∀ h, powG (.int 10) (.int 18) h = some (.int 1000000000000000000, h) := fun h => pow_ii ⟨by omega, by omega, by decide⟩
  have r6 : ∀ h, itR1 [.int 60] h = .ok ((List.range' 0 60).map fun (i : Nat) => .int (0 + (i : Int)), fun _ => True) h := fun h => by rw [itR1_i ⟨by omega, by omega⟩, List.range_eq_range']; rfl
  have r3 : ∀ h, itR1 [.int 3] h = .ok ((List.range' 0 3).map fun (i : Nat) => .int (0 + (i : Int)), fun _ => True) h := fun h => by rw [itR1_i ⟨by omega, by omega⟩, List.range_eq_range']; rfl
  have si : SI (ns.map D.int) (.int (0 + (k : Int))) [some (.ref 0), some (.int 300), some (.ref 1), some (.int (0 + (k : Int))), some (.int r), x5] [.rdl (ns.map D.int), .lst (row.map D.int)] := ⟨r, x5, row, rfl, rfl, hl⟩
  by_cases c : (1000000000000000000 : Int) ≤ r
  · obtain ⟨s2, h2, e, i2⟩ := loop_inv (g := gN 5) (p := L_u_law_stream_2) (Inv := SI (ns.map D.int) (.int (0 + (k : Int)))) (ds := (List.range' 0 60).map fun (i : Nat) => .int (0 + (i : Int))) (fun d hd s h i => st2 i) si
    obtain ⟨r', x5', row', rfl, rfl, hl'⟩ := i2
    refine ⟨_, _, rfl, ?_, ⟨some (.int (0 + (k : Int))), some (.int r'), x5', row', rfl, rfl, hl'⟩⟩
    have mf : mFor (iR1 (mCons (mC (.int 60)) mNil)) (gN 5) L_u_law_stream_2 [some (.ref 0), some (.int 300), some (.ref 1), some (.int (0 + (k : Int))), some (.int r), x5] [.rdl (ns.map D.int), .lst (row.map D.int)] = .nx [some (.ref 0), some (.int 300), some (.ref 1), some (.int (0 + (k : Int))), some (.int r'), x5'] [.rdl (ns.map D.int), .lst (row'.map D.int)] := by
      rw [mFor_ok (xs := (List.range' 0 60).map fun (i : Nat) => .int (0 + (i : Int))) (G := fun _ => True) (h' := [.rdl (ns.map D.int), .lst (row.map D.int)]) (by clear e; walk_at "pm")]
      exact e
    unfold L_u_law_stream_1
    have c' := eq_true c
    clear c e si r6 r3
    walk_at "pm"
  · obtain ⟨s2, h2, e, i2⟩ := loop_inv (g := gN 5) (p := L_u_law_stream_3) (Inv := SI (ns.map D.int) (.int (0 + (k : Int)))) (ds := (List.range' 0 3).map fun (i : Nat) => .int (0 + (i : Int))) (fun d hd s h i => by
      obtain ⟨m, _, rfl⟩ := List.mem_map.mp hd
      exact st3 i) si
    obtain ⟨r', x5', row', rfl, rfl, hl'⟩ := i2
    refine ⟨_, _, rfl, ?_, ⟨some (.int (0 + (k : Int))), some (.int r'), x5', row', rfl, rfl, hl'⟩⟩
    have mf : mFor (iR1 (mCons (mC (.int 3)) mNil)) (gN 5) L_u_law_stream_3 [some (.ref 0), some (.int 300), some (.ref 1), some (.int (0 + (k : Int))), some (.int r), x5] [.rdl (ns.map D.int), .lst (row.map D.int)] = .nx [some (.ref 0), some (.int 300), some (.ref 1), some (.int (0 + (k : Int))), some (.int r'), x5'] [.rdl (ns.map D.int), .lst (row'.map D.int)] := by
      rw [mFor_ok (xs := (List.range' 0 3).map fun (i : Nat) => .int (0 + (i : Int))) (G := fun _ => True) (h' := [.rdl (ns.map D.int), .lst (row.map D.int)]) (by clear e; walk_at "pm")]
      exact e
    unfold L_u_law_stream_1
    have c' := eq_false c
    clear c e si r6 r3
    walk_at "pm"
theorem stream_ok {ns : List Int} (hn : ns.length ≤ 63) : ∃ h row, m_u_law_stream [.ref 0, .int 300] [.rdl (ns.map D.int)] = .ok (.ref 2) h ∧ St h 2 1 row 0 ∧ row.length ≤ 300 ∧ h.length = 3 := by
  obtain ⟨s2, h2, e, i2⟩ := loop_idx (g := gN 3) (p := L_u_law_stream_1) (Inv := fun _ => SJ (ns.map D.int)) (n := ns.length) (k := 0) (fun m _ hm s h i => st1 (by omega) i) (s := [some (.ref 0), some (.int 300), some (.ref 1), none, none, none]) (h := [.rdl (ns.map D.int), .lst ([].map D.int)]) ⟨none, none, none, [], rfl, rfl, by simp⟩
  obtain ⟨x3, x4, x5, row, rfl, rfl, hl⟩ := i2
  have ln : ((row.map D.int).length : Int) = (row.length : Int) := by simp
  have ln2 : ((ns.map D.int).length : Int) = (ns.length : Int) := by simp
  have c1 : ((63 : Int) < (ns.length : Int)) = False := eq_false (by omega)
  have rr : ∀ h, itR1 [.int (ns.length : Int)] h = .ok ((List.range' 0 ns.length).map fun (i : Nat) => .int (0 + (i : Int)), fun _ => True) h := fun h => by
    rw [itR1_i ⟨by omega, by omega⟩, List.range_eq_range', Int.toNat_natCast]
  refine ⟨[.rdl (ns.map D.int), .lst (row.map D.int), .dic [(.inr "row", .ref 1), (.inr "at", .int 0), (.inr "seed", .int row.length)]], row, ?_, ⟨rfl, rfl, by omega⟩, hl, rfl⟩
  have mf : mFor (iR1 (mCons (mB minL (mCons (mB lenG (mCons (mVar 0) mNil)) (mCons (mC (.int 63)) mNil))) mNil)) (gN 3) L_u_law_stream_1 [some (.ref 0), some (.int 300), some (.ref 1), none, none, none] [.rdl (ns.map D.int), .lst []] = .nx [some (.ref 0), some (.int 300), some (.ref 1), x3, x4, x5] [.rdl (ns.map D.int), .lst (row.map D.int)] := by
    rw [mFor_ok (xs := (List.range' 0 ns.length).map fun (i : Nat) => .int (0 + (i : Int))) (G := fun _ => True) (h' := [.rdl (ns.map D.int), .lst []]) (by clear e; walk_at "pm")]
    exact e
  have md : mDisp [(mC (.str "row"), mVar 2), (mC (.str "at"), mC (.int 0)), (mC (.str "seed"), mB lenG (mCons (mVar 2) mNil))] [some (.ref 0), some (.int 300), some (.ref 1), x3, x4, x5] [.rdl (ns.map D.int), .lst (row.map D.int)] = .ok (.ref 2) [.rdl (ns.map D.int), .lst (row.map D.int), .dic [(.inr "row", .ref 1), (.inr "at", .int 0), (.inr "seed", .int row.length)]] := by
    have : (row.length : Int) = ((row.map D.int).length : Int) := by simp
    rw [this]
    rfl
  unfold m_u_law_stream b_u_law_stream
  clear e rr c1
  walk_at "pm"
end K21
end
section
set_option Elab.async false
set_option linter.all false
set_option maxRecDepth 100000
set_option maxHeartbeats 1000000
namespace K21
open PySem L2 PM
local macro_rules | `(tactic| walk_at "pm") => `(tactic| simp only [bind_ok, toS_ok, seq_nx, seq_rt, seq_bk, seq_ct, seq_exc, bind_exc, toS_exc, mSeq_ap, mNext_ap, mSet_ap, kSet_ap, mAsg_ap, kAsg_ap, ofS_some, gN_ap, gTup_ap, gCons_ap, gNil_ap, mDrop_ap, kDrop_ap, mRet_ap, mRetN_ap, mIfS_ap, kIf_t, kIf_f, mBreak_ap, mCont_ap, mBad_ap, mAug_ap, kAug_ap, mVar_ap, mC_ap, m1_ap, k1_ap, m2_ap, k2_ap, k2'_ap, ofO_some, mNil_ap, mCons_ap, kC_ap, kC'_ap, mCall_ap, mB_ap, kB_ap, mMeth_ap, kM_ap, kM'_ap, mTest_ap, kBl_ap, mNot_ap, kNot_ap, mAnd_ap, kAnd_t, kAnd_f, mOr_ap, kOr_t, kOr_f, mIfE_ap, kIfE_t, kIfE_f, mAndV_ap, kAndV_t, kAndV_f, mOrV_ap, kOrV_t, kOrV_f, mNotV_ap, kNotV_ap, mTup_ap, kTup_ap, mLst_ap, kLst_ap, mNoPart_ap, mPart_ap, kInt_ap, mSl_ap, kSl1_ap, kSl2_ap, kSl3_ap, mChain_ap, kCh0_ap, kCh1_ap, kCh2_t, kCh2_f, kCh3_ap, mPutD_ap, kP1_ap, kP2_ap, kP3_ap, runDef_ap, fin_nx, fin_rt, fin_exc, mYes_ap, add_ii, iadd_ii, add_ss, sub_ii, mul_ii, mul_si, mod_ii, fdiv_ii, pow_ii, neg_i, ord_ii, ord_ss, eq_ii, ne_ii, eq_ss, ne_ss, is_non, isn_non, int_i, len_s, len_t, min_ii, sl_s, in_c, nin_c, split_s, str1_ss, find4_s, ty_str, ord_c, iR1_ap, itR1_i, iS_ap, itS_s, iT_ap, itT_t, iE_ap, oD_some, len_r, oLen_l, oLen_r, oKey_s, it_ref, itH_r, itH_t, itH_s, oIH_d, oIH_l, oIH_r, tupF_r, oTupF_l, mTupF_ap, kTupF_ap, seq_t, seq_s, seq_r, oSeq_l, mStar_ap, kSt_ap, kSt1_s, kSt2_ap, lst_d, oLst_s, mTupRev_ap, kRev_t, kRev_s, len_st, min_l, oTy_t, oTy_d, isi_i, isi_s, mIdx_ap, kIx_s, kIxs_ap, kIx1_s, iA_ap, itA_t, itA_s, oItem_d, oItem_l, oItem_r, it_tup, oC_some, it_str, keyD_s, keyD_i, app_r, oApp_l, ext_r, oExt_l, ty_ref, oTy_l, isi_ref, oIsi_l, put_ref, oPut_d, oPutK_s, oBls_s, all_r, oAll_l, tup_r, oTup_l, itE_r, oEnum_l, List.map_cons, List.map_nil, List.length_cons, List.length_nil, List.replicate, List.cons_append, List.nil_append, List.set_cons_zero, List.set_cons_succ, List.getElem?_cons_zero, List.getElem?_cons_succ, Nat.reduceSub, Nat.reduceAdd, Nat.reduceLeDiff, Nat.reduceLT,  cond_true, cond_false, if_true, if_false, ite_true, ite_false, Bool.false_eq_true, reduceIte, Nat.zero_add, Option.bind_some, ne_eq, Int.reduceEq, not_false_eq_true, not_true_eq_false, decide_true, decide_false, Bool.not_true, Bool.not_false, *])

/-! heaps that only grow -/
structure X0 (h h' : HP) : Prop where
  len : h.length ≤ h'.length
  at' : ∀ (k : Nat) (o : Ob), h[k]? = some o → h'[k]? = some o
theorem X0.refl (h : HP) : X0 h h := ⟨Nat.le_refl _, fun _ _ e => e⟩
theorem X0.trans {a b c : HP} (x : X0 a b) (y : X0 b c) : X0 a c := ⟨Nat.le_trans x.len y.len, fun k o e => y.at' k o (x.at' k o e)⟩
theorem X0.app (h l : HP) : X0 h (h ++ l) := ⟨by simp, fun k o e => by rw [List.getElem?_append_left (get_lt e)]; exact e⟩
theorem last_get {h : HP} {o : Ob} : (h ++ [o])[h.length]? = some o := by rw [List.getElem?_append_right (Nat.le_refl _)]; simp
theorem X0.set {h0 h : HP} (x : X0 h0 h) {n : Nat} (hn : h0.length ≤ n) (o : Ob) : X0 h0 (h.set n o) := ⟨by rw [List.length_set]; exact x.len, fun k o' e => by
  rw [List.getElem?_set_ne (by have := get_lt e; omega)]; exact x.at' k o' e⟩
/-- the list of a comprehension at the end of h0 -/
def At (h0 : HP) (acc : List D) (h : HP) : Prop := X0 h0 h ∧ h[h0.length]? = some (.lst acc)
theorem At.new (h0 : HP) : At h0 [] (h0 ++ [.lst []]) := ⟨X0.app _ _, last_get⟩
theorem At.mono {h0 : HP} {acc : List D} {h h' : HP} (a : At h0 acc h) (x : X0 h h') : At h0 acc h' := ⟨a.1.trans x, x.at' _ _ a.2⟩
theorem cl_map {h0 : HP} {G : HP → Prop} {tg : Tg} {c : MT} {el : ME} {s : SD} {f : D → D} {p : D → Bool} (hG : ∀ h, X0 h0 h → G h) :
    ∀ {ds acc : List D} {h : HP}, (∀ d ∈ ds, ∀ h, X0 h0 h → ∃ s1 h1, tg.put d s = some s1 ∧ c s1 h = .ok (p d) h1 ∧ X0 h h1 ∧ (p d = true → ∃ h2, el s1 h1 = .ok (f d) h2 ∧ X0 h1 h2)) → At h0 acc h → acc.length + ds.length ≤ 1000000 →
    ∃ h', cLoop G tg c el (putL h0.length) h0.length ds s h = .ok (.ref h0.length) h' ∧ At h0 (acc ++ (ds.filter p).map f) h'
  | [], acc, h, _, a, _ => ⟨h, by unfold cLoop; rw [if_pos (hG h a.1)], by simpa using a⟩
  | d :: ds, acc, h, st, a, hl => by
    obtain ⟨s1, h1, e1, e2, x1, q⟩ := st d List.mem_cons_self h a.1
    rw [List.length_cons] at hl
    unfold cLoop
    rw [if_pos (hG h a.1), e1]
    dsimp only
    rw [e2]
    by_cases hp : p d = true
    · obtain ⟨h2, e3, x2⟩ := q hp
      have a2 := (a.mono x1).mono x2
      rw [hp]
      dsimp only
      rw [e3]
      dsimp only
      have e4 : putL h0.length (f d) h2 = some (h2.set h0.length (.lst (acc ++ [f d]))) := by
        unfold putL; rw [a2.2]; dsimp only; rw [if_pos (by omega)]
      rw [e4]
      dsimp only
      have a3 : At h0 (acc ++ [f d]) (h2.set h0.length (.lst (acc ++ [f d]))) := ⟨a2.1.set (Nat.le_refl _) _, List.getElem?_set_self (get_lt a2.2)⟩
      obtain ⟨h', e5, a5⟩ := cl_map hG (fun d hd => st d (List.mem_cons_of_mem _ hd)) a3 (by simp; omega)
      refine ⟨h', e5, ?_⟩
      rw [List.filter_cons_of_pos hp, List.map_cons]
      simpa using a5
    · have hp' : p d = false := by simpa using hp
      rw [hp']
      dsimp only
      obtain ⟨h', e5, a5⟩ := cl_map hG (fun d hd => st d (List.mem_cons_of_mem _ hd)) (a.mono x1) (by omega)
      exact ⟨h', e5, by rw [List.filter_cons_of_neg hp]; exact a5⟩
/-- without a condition -/
theorem cl_all {h0 : HP} {G : HP → Prop} {tg : Tg} {el : ME} {s : SD} {f : D → D} (hG : ∀ h, X0 h0 h → G h) {ds : List D}
    (st : ∀ d ∈ ds, ∀ h, X0 h0 h → ∃ s1 h2, tg.put d s = some s1 ∧ el s1 h = .ok (f d) h2 ∧ X0 h h2) (hl : ds.length ≤ 1000000) :
    ∃ h', cLoop G tg mYes el (putL h0.length) h0.length ds s (h0 ++ [.lst []]) = .ok (.ref h0.length) h' ∧ At h0 (ds.map f) h' := by
  obtain ⟨h', e, a⟩ := cl_map (p := fun _ => true) (c := mYes) hG (fun d hd h x => by
    obtain ⟨s1, h2, e1, e2, x2⟩ := st d hd h x
    exact ⟨s1, h, e1, rfl, X0.refl _, fun _ => ⟨h2, e2, x2⟩⟩) (At.new h0) (by simpa using hl)
  rw [List.nil_append, show ds.filter (fun _ => true) = ds from List.filter_eq_self.mpr fun _ _ => rfl] at a
  exact ⟨h', e, a⟩
/-- what can be walked, now and later -/
def It (R : D) (h : HP) (xs : List D) : Prop := ∃ G : HP → Prop, ∀ h', X0 h h' → itA R h' = .ok (xs, G) h' ∧ G h'
theorem It.mono {R : D} {h h' : HP} {xs : List D} (i : It R h xs) (x : X0 h h') : It R h' xs := let ⟨G, g⟩ := i; ⟨G, fun h2 y => g h2 (x.trans y)⟩
theorem It.tup {h : HP} {xs : List D} : It (.tup xs) h xs := ⟨fun _ => True, fun _ _ => ⟨rfl, trivial⟩⟩
theorem It.stp {h : HP} {xs : List D} : It (.stp xs) h xs := ⟨fun _ => True, fun _ _ => ⟨rfl, trivial⟩⟩
theorem It.lst {h : HP} {i : Nat} {xs : List D} (e : h[i]? = some (.lst xs)) : It (.ref i) h xs := ⟨fun h => h[i]? = some (.lst xs), fun h' x => by
  have e2 := x.at' _ _ e
  refine ⟨?_, e2⟩
  unfold itA
  dsimp only
  rw [e2]⟩
/-- a comprehension over what can be walked -/
theorem lc_all {it : MI} {R : D} {tg : Tg} {el : ME} {s : SD} {f : D → D} {xs : List D} {h : HP} (hi : It R h xs) (e : ∀ G, itA R h = .ok (xs, G) h → it s h = .ok (xs, G) h)
    (st : ∀ d ∈ xs, ∀ h', X0 h h' → ∃ s1 h2, tg.put d (wipeD s tg.slots) = some s1 ∧ el s1 h' = .ok (f d) h2 ∧ X0 h' h2) (hl : xs.length ≤ 1000000) :
    ∃ h', mLcG it tg mYes el s h = .ok (.ref h.length) h' ∧ At h (xs.map f) h' := by
  obtain ⟨G, g⟩ := hi
  rw [mLcG_ok (e G (g h (X0.refl _)).1)]
  exact cl_all (fun h' x => (g h' x).2) st hl
theorem lc_some {it : MI} {R : D} {tg : Tg} {c : MT} {el : ME} {s : SD} {f : D → D} {p : D → Bool} {xs : List D} {h : HP} (hi : It R h xs) (e : ∀ G, itA R h = .ok (xs, G) h → it s h = .ok (xs, G) h)
    (st : ∀ d ∈ xs, ∀ h', X0 h h' → ∃ s1 h1, tg.put d (wipeD s tg.slots) = some s1 ∧ c s1 h' = .ok (p d) h1 ∧ X0 h' h1 ∧ (p d = true → ∃ h2, el s1 h1 = .ok (f d) h2 ∧ X0 h1 h2)) (hl : xs.length ≤ 1000000) :
    ∃ h', mLcG it tg c el s h = .ok (.ref h.length) h' ∧ At h ((xs.filter p).map f) h' := by
  obtain ⟨G, g⟩ := hi
  rw [mLcG_ok (e G (g h (X0.refl _)).1)]
  have := cl_map (fun h' x => (g h' x).2) st (At.new h) (by simpa using hl)
  simpa using this
/-! rows -/
def RowD (d : D) (ks : List Key) : Prop := d = .tup (ks.map kD) ∨ d = .stp (ks.map kD)
def ksOf (d : D) : List Key := match d with
  | .tup xs => (keyDs xs).getD []
  | .stp xs => (keyDs xs).getD []
  | _ => []
theorem keyDs_map : ∀ ks : List Key, keyDs (ks.map kD) = some ks
  | [] => rfl
  | k :: ks => by
    have e : keyD (kD k) = some k := by cases k <;> rfl
    rw [List.map_cons]; unfold keyDs; rw [e, keyDs_map ks]
theorem RowD.ks {d : D} {ks : List Key} (r : RowD d ks) : ksOf d = ks := by
  rcases r with rfl | rfl <;> (show (keyDs (ks.map kD)).getD [] = ks; rw [keyDs_map]; rfl)
def IsRow (C : List Str) (d : D) : Prop := RowD d (ksOf d) ∧ (ksOf d).length = C.length
def ix (C : List Str) (nm : Str) : Nat := (idxOf nm C).getD 0
theorem ix_ok : ∀ {C : List Str} {nm : Str}, nm ∈ C → idxOf nm C = some (ix C nm) ∧ ix C nm < C.length
  | [], nm, h => by cases h
  | c :: C, nm, h => by
    by_cases e : c = nm
    · subst e
      have : idxOf c (c :: C) = some 0 := by unfold idxOf; rw [if_pos rfl]
      unfold ix; rw [this]; exact ⟨rfl, by simp⟩
    · obtain ⟨e1, e2⟩ := ix_ok (C := C) ((List.mem_cons.mp h).resolve_left (Ne.symm e))
      have : idxOf nm (c :: C) = some (ix C nm + 1) := by unfold idxOf; rw [if_neg e, e1]; rfl
      unfold ix at *
      rw [this]
      exact ⟨rfl, by simp; omega⟩
def prj (C names : List Str) (ks : List Key) : List Key := names.map fun nm => ks.getD (ix C nm) (.inl 0)
theorem row_at {C : List Str} {d : D} {nm : Str} (r : IsRow C d) (hm : nm ∈ C) (h : HP) : itemH d (.int (ix C nm)) h = some (kD ((ksOf d).getD (ix C nm) (.inl 0)), h) := by
  have hx : ix C nm < (ksOf d).length := by rw [r.2]; exact (ix_ok hm).2
  have e : atI ((ksOf d).map kD) (ix C nm : Nat) = some (kD ((ksOf d).getD (ix C nm) (.inl 0))) := by
    refine atI_nat ?_
    rw [List.getElem?_map, List.getElem?_eq_getElem hx, List.getD_eq_getElem?_getD, List.getElem?_eq_getElem hx]; rfl
  have rr := r.1
  generalize ksOf d = ks at rr e
  rcases rr with rfl | rfl
  · rw [itH_t, e]; rfl
  · rw [itH_s, e]; rfl
def prD (C names : List Str) (d : D) : D := .tup ((prj C names (ksOf d)).map kD)
def strOf (d : D) : Str := match d with
  | .str x => x
  | _ => ""
theorem vin_ok {C names : List Str} {R Kn : D} {xs : List D} {h : HP} (hk : It Kn h (names.map D.str)) (hr : It R h xs) (rd : ∀ d ∈ xs, IsRow C d) (hn : ∀ nm ∈ names, nm ∈ C) (l1 : names.length ≤ 1000) (l2 : xs.length ≤ 1000) :
    ∃ n h', m_u_values_in [.tup [.stp (C.map D.str), R], Kn] h = .ok (.ref n) h' ∧ X0 h h' ∧ h.length ≤ n ∧ h'[n]? = some (.lst (xs.map (prD C names))) := by
  obtain ⟨h1, e1, a1⟩ := lc_all (it := iA (mVar 1)) (tg := .one 5) (el := mIdx (mVar 2) (mCons (mVar 5) mNil)) (s := [some (.tup [.stp (C.map D.str), R]), some Kn, some (.stp (C.map D.str)), some R, none, none, none, none]) (f := fun d => .int (ix C (strOf d))) hk (fun G e => by rw [← e]; rfl)
    (fun d hd h' x => by
      obtain ⟨nm, hm, rfl⟩ := List.mem_map.mp hd
      refine ⟨_, h', rfl, ?_, X0.refl _⟩
      have q := (ix_ok (hn nm hm)).1
      have e : strOf (.str nm) = nm := rfl
      rw [e]
      generalize ix C nm = j at q
      show mIdx (mVar 2) (mCons (mVar 5) mNil) [some (.tup [.stp (C.map D.str), R]), some Kn, some (.stp (C.map D.str)), some R, none, some (.str nm), none, none] h' = _
      walk_at "pm") (by simp; omega)
  generalize hpl : (names.map D.str).map (fun d => D.int (ix C (strOf d))) = pl at a1
  have hit := It.lst (h := h1) a1.2
  obtain ⟨h2, e2, a2⟩ := lc_all (it := iA (mVar 3)) (tg := .one 7) (el := mB toTupG (mCons (mLcG (iA (mVar 4)) (.one 6) mYes (m2 itemH (mVar 7) (mVar 6))) mNil)) (s := [some (.tup [.stp (C.map D.str), R]), some Kn, some (.stp (C.map D.str)), some R, some (.ref h.length), none, none, none]) (f := prD C names) (hr.mono a1.1) (fun G e => by rw [← e]; rfl)
    (fun d hd h' x => by
      obtain ⟨h3, e3, a3⟩ := lc_all (it := iA (mVar 4)) (tg := .one 6) (el := m2 itemH (mVar 7) (mVar 6)) (s := [some (.tup [.stp (C.map D.str), R]), some Kn, some (.stp (C.map D.str)), some R, some (.ref h.length), none, none, some d]) (f := fun j => match j with | .int j => kD ((ksOf d).getD j.toNat (.inl 0)) | _ => .non) (hit.mono x) (fun G e => by rw [← e]; rfl)
        (fun j hj h4 x4 => by
          rw [← hpl] at hj
          obtain ⟨y, hy, rfl⟩ := List.mem_map.mp hj
          obtain ⟨nm, hm, rfl⟩ := List.mem_map.mp hy
          refine ⟨_, h4, rfl, ?_, X0.refl _⟩
          have q := row_at (rd d hd) (hn nm hm) h4
          have e : strOf (.str nm) = nm := rfl
          rw [e]
          show m2 itemH (mVar 7) (mVar 6) [some (.tup [.stp (C.map D.str), R]), some Kn, some (.stp (C.map D.str)), some R, some (.ref h.length), none, some (.int (ix C nm)), some d] h4 = .ok (kD ((ksOf d).getD (ix C nm : Int).toNat (.inl 0))) h4
          rw [Int.toNat_natCast]
          generalize kD ((ksOf d).getD (ix C nm) (.inl 0)) = z at q ⊢
          walk_at "pm") (by rw [← hpl]; simp; omega)
      refine ⟨_, h3, rfl, ?_, a3.1⟩
      have ee : pl.map (fun j => match j with | .int j => kD ((ksOf d).getD j.toNat (.inl 0)) | _ => .non) = (prj C names (ksOf d)).map kD := by
        rw [← hpl]
        unfold prj
        rw [List.map_map, List.map_map, List.map_map]
        refine List.map_congr_left fun nm _ => ?_
        show kD ((ksOf d).getD (ix C nm : Int).toNat (.inl 0)) = kD _
        rw [Int.toNat_natCast]
      rw [ee] at a3
      have g := a3.2
      show mB toTupG (mCons (mLcG (iA (mVar 4)) (.one 6) mYes (m2 itemH (mVar 7) (mVar 6))) mNil) [some (.tup [.stp (C.map D.str), R]), some Kn, some (.stp (C.map D.str)), some R, some (.ref h.length), none, none, some d] h' = .ok (.tup ((prj C names (ksOf d)).map kD)) h3
      clear a3 hit hpl
      walk_at "pm") (by omega)
  refine ⟨h1.length, h2, ?_, a1.1.trans a2.1, a1.1.len, a2.2⟩
  unfold m_u_values_in b_u_values_in
  clear hit a1 a2 hk hr
  walk_at "pm"
end K21
end
section
set_option Elab.async false
set_option linter.all false
set_option maxRecDepth 100000
set_option maxHeartbeats 1000000
namespace K21
open PySem L2 PM
local macro_rules | `(tactic| walk_at "pm") => `(tactic| simp only [bind_ok, toS_ok, seq_nx, seq_rt, seq_bk, seq_ct, seq_exc, bind_exc, toS_exc, mSeq_ap, mNext_ap, mSet_ap, kSet_ap, mAsg_ap, kAsg_ap, ofS_some, gN_ap, gTup_ap, gCons_ap, gNil_ap, mDrop_ap, kDrop_ap, mRet_ap, mRetN_ap, mIfS_ap, kIf_t, kIf_f, mBreak_ap, mCont_ap, mBad_ap, mAug_ap, kAug_ap, mVar_ap, mC_ap, m1_ap, k1_ap, m2_ap, k2_ap, k2'_ap, ofO_some, mNil_ap, mCons_ap, kC_ap, kC'_ap, mCall_ap, mB_ap, kB_ap, mMeth_ap, kM_ap, kM'_ap, mTest_ap, kBl_ap, mNot_ap, kNot_ap, mAnd_ap, kAnd_t, kAnd_f, mOr_ap, kOr_t, kOr_f, mIfE_ap, kIfE_t, kIfE_f, mAndV_ap, kAndV_t, kAndV_f, mOrV_ap, kOrV_t, kOrV_f, mNotV_ap, kNotV_ap, mTup_ap, kTup_ap, mLst_ap, kLst_ap, mNoPart_ap, mPart_ap, kInt_ap, mSl_ap, kSl1_ap, kSl2_ap, kSl3_ap, mChain_ap, kCh0_ap, kCh1_ap, kCh2_t, kCh2_f, kCh3_ap, mPutD_ap, kP1_ap, kP2_ap, kP3_ap, runDef_ap, fin_nx, fin_rt, fin_exc, mYes_ap, add_ii, iadd_ii, add_ss, sub_ii, mul_ii, mul_si, mod_ii, fdiv_ii, pow_ii, neg_i, ord_ii, ord_ss, eq_ii, ne_ii, eq_ss, ne_ss, is_non, isn_non, int_i, len_s, len_t, min_ii, sl_s, in_c, nin_c, split_s, str1_ss, find4_s, ty_str, ord_c, iR1_ap, itR1_i, iS_ap, itS_s, iT_ap, itT_t, iE_ap, oD_some, len_r, oLen_l, oLen_r, oKey_s, it_ref, itH_r, itH_t, itH_s, oIH_d, oIH_l, oIH_r, tupF_r, oTupF_l, mTupF_ap, kTupF_ap, seq_t, seq_s, seq_r, oSeq_l, mStar_ap, kSt_ap, kSt1_s, kSt2_ap, lst_d, oLst_s, mTupRev_ap, kRev_t, kRev_s, len_st, min_l, oTy_t, oTy_d, isi_i, isi_s, mIdx_ap, kIx_s, kIxs_ap, kIx1_s, iA_ap, itA_t, itA_s, oItem_d, oItem_l, oItem_r, it_tup, oC_some, it_str, keyD_s, keyD_i, app_r, oApp_l, ext_r, oExt_l, ty_ref, oTy_l, isi_ref, oIsi_l, put_ref, oPut_d, oPutK_s, oBls_s, all_r, oAll_l, tup_r, oTup_l, itE_r, oEnum_l, List.map_cons, List.map_nil, List.length_cons, List.length_nil, List.replicate, List.cons_append, List.nil_append, List.set_cons_zero, List.set_cons_succ, List.getElem?_cons_zero, List.getElem?_cons_succ, Nat.reduceSub, Nat.reduceAdd, Nat.reduceLeDiff, Nat.reduceLT,  cond_true, cond_false, if_true, if_false, ite_true, ite_false, Bool.false_eq_true, reduceIte, Nat.zero_add, Option.bind_some, ne_eq, Int.reduceEq, not_false_eq_true, not_true_eq_false, decide_true, decide_false, Bool.not_true, Bool.not_false, *])

/-! what rows are ordered by -/
def ordD : Key → D
  | .inl i => .tup [.int 0, .int i]
  | .inr x => .tup [.int 1, .str x]
def keyP : Key → PyData
  | .inl i => .tuple [.int 0, .int i]
  | .inr x => .tuple [.int 1, .str x]
def isL : Key → Bool
  | .inl _ => true
  | .inr _ => false
theorem order_ok (k : Key) (h : HP) : m_order_of [kD k] h = .ok (ordD k) h := by
  unfold m_order_of b_order_of
  cases k with
  | inl i => show runDef 1 _ [.int i] h = .ok (.tup [.int 0, .int i]) h; walk_at "pm"
  | inr x => show runDef 1 _ [.str x] h = .ok (.tup [.int 1, .str x]) h; walk_at "pm"
def ordOf (d : D) : D := match keyD d with
  | some k => ordD k
  | none => .non
theorem keyD_kD (k : Key) : keyD (kD k) = some k := by cases k <;> rfl
theorem ordOf_kD (k : Key) : ordOf (kD k) = ordD k := by unfold ordOf; rw [keyD_kD]
theorem row_order {d : D} {ks : List Key} (r : RowD d ks) (hl : ks.length ≤ 1000) (h : HP) : ∃ h', m_u_order_of_row [d] h = .ok (.ref h.length) h' ∧ At h (ks.map ordD) h' := by
  have hit : It d h (ks.map kD) := by rcases r with rfl | rfl; exact .tup; exact .stp
  obtain ⟨h1, e1, a1⟩ := lc_all (it := iA (mVar 0)) (tg := .one 1) (el := mCall m_order_of (mCons (mVar 1) mNil)) (s := [some d, none]) (f := ordOf) hit (fun G e => by rw [← e]; rfl)
    (fun x hx h' _ => by
      obtain ⟨k, _, rfl⟩ := List.mem_map.mp hx
      refine ⟨_, h', rfl, ?_, X0.refl _⟩
      rw [ordOf_kD]
      have e := order_ok k h'
      generalize kD k = z at e
      show mCall m_order_of (mCons (mVar 1) mNil) [some d, some z] h' = _
      walk_at "pm") (by simp; omega)
  refine ⟨h1, ?_, ?_⟩
  · unfold m_u_order_of_row b_u_order_of_row
    clear a1 hit
    walk_at "pm"
  · rw [List.map_map] at a1
    rw [show ks.map ordD = ks.map (ordOf ∘ kD) from List.map_congr_left fun k _ => (ordOf_kD k).symm]
    exact a1
theorem py_ord (h : HP) (k : Key) : toPy 59 h (ordD k) = some (keyP k) := by cases k <;> rfl
theorem py_ords (h : HP) : ∀ ks : List Key, (ks.map ordD).mapM (toPy 59 h) = some (ks.map keyP)
  | [] => rfl
  | k :: ks => by rw [List.map_cons, List.mapM_cons, py_ord, py_ords h ks]; rfl
def ordP (d : D) : PyData := .list ((ksOf d).map keyP)
theorem py_row {h : HP} {i : Nat} {ks : List Key} (e : h[i]? = some (.lst (ks.map ordD))) : toPy 60 h (.ref i) = some (.list (ks.map keyP)) := by
  show (match h[i]? with | some (.lst xs) => (xs.mapM (toPy 59 h)).map PyData.list | some (.rdl xs) => (xs.mapM (toPy 59 h)).map PyData.list | _ => none) = _
  rw [e]
  show ((ks.map ordD).mapM (toPy 59 h)).map PyData.list = _
  rw [py_ords]; rfl
def Rows (C : List Str) (kd : List Bool) (xs : List D) : Prop := ∀ d ∈ xs, IsRow C d ∧ (ksOf d).map isL = kd
theorem keys_ok : ∀ {xs : List D} {h : HP}, (∀ d ∈ xs, RowD d (ksOf d) ∧ (ksOf d).length ≤ 1000) → ∃ rs h', runKeys m_u_order_of_row xs h = .ok rs h' ∧ X0 h h' ∧ ∀ h2, X0 h' h2 → rs.mapM (toPy 60 h2) = some (xs.map ordP)
  | [], h, _ => ⟨[], h, rfl, X0.refl _, fun _ _ => rfl⟩
  | d :: xs, h, hd => by
    obtain ⟨h1, e1, a1⟩ := row_order (hd d List.mem_cons_self).1 (hd d List.mem_cons_self).2 h
    obtain ⟨rs, h2, e2, x2, q2⟩ := keys_ok (xs := xs) (h := h1) fun d h => hd d (List.mem_cons_of_mem _ h)
    refine ⟨.ref h.length :: rs, h2, ?_, a1.1.trans x2, fun h3 x3 => ?_⟩
    · show (match m_u_order_of_row [d] h with | .ok k h => (match runKeys m_u_order_of_row xs h with | .ok ks h => R.ok (k :: ks) h | _ => .bad) | _ => .bad) = _
      rw [e1]
      dsimp only
      rw [e2]
    · rw [List.mapM_cons, py_row (x3.at' _ _ (x2.at' _ _ a1.2)), q2 h3 x3]; rfl
theorem alike_keys : ∀ {a b : List Key}, a.map isL = b.map isL → PySem.W.alikeAll (a.map keyP) (b.map keyP) = true
  | [], _, _ => by simp [PySem.W.alikeAll]
  | _ :: _, [], e => by cases e
  | x :: a, y :: b, e => by
    simp only [List.map_cons, List.cons.injEq] at e
    have q := alike_keys e.2
    have e1 := e.1
    cases x <;> cases y <;> first | (simp [isL] at e1; done) | (simp [PySem.W.alikeAll, PySem.W.alike, keyP, q]; done)
theorem depth_keys : ∀ ks : List Key, PyData.depthAll (ks.map keyP) ≤ 2
  | [] => by simp [PyData.depthAll]
  | k :: ks => by
    have q := depth_keys ks
    cases k <;> (simp only [List.map_cons, keyP, PyData.depthAll, PyData.depth]; omega)
theorem srt_ok {C : List Str} {kd : List Bool} {xs : List D} (r : Rows C kd xs) (hl : xs.length ≤ 1000000) : SrtOk (xs.map ordP) := by
  refine ⟨fun p hp q hq => ?_, .inr fun p hp => ?_, fun p hp => ?_, by simpa using hl⟩
  · obtain ⟨d, hd, rfl⟩ := List.mem_map.mp hp
    obtain ⟨d2, hd2, rfl⟩ := List.mem_map.mp hq
    have := alike_keys (a := ksOf d) (b := ksOf d2) ((r d hd).2.trans (r d2 hd2).2.symm)
    simp only [ordP, PySem.W.alike, this]
  · obtain ⟨d, hd, rfl⟩ := List.mem_map.mp hp
    exact ⟨(fun z => nomatch z), (fun _ z => nomatch z)⟩
  · obtain ⟨d, hd, rfl⟩ := List.mem_map.mp hp
    have := depth_keys (ksOf d)
    simp only [ordP, PyData.depth]; omega
theorem srt_mem {α : Type} {xs : List α} {f : α → D} {g : α → PyData} {d : D} : d ∈ srt (xs.map f) (xs.map g) ↔ d ∈ xs.map f := by
  unfold srt
  rw [List.zip_map']
  simp only [List.mem_map, List.mem_mergeSort]
  constructor
  · rintro ⟨p, ⟨x, hx, rfl⟩, rfl⟩; exact ⟨x, hx, rfl⟩
  · rintro ⟨x, hx, rfl⟩; exact ⟨(f x, g x), ⟨x, hx, rfl⟩, rfl⟩
theorem srt_len {α : Type} {xs : List α} {f : α → D} {g : α → PyData} : (srt (xs.map f) (xs.map g)).length = xs.length := by
  unfold srt
  rw [List.zip_map', List.length_map, List.length_mergeSort, List.length_map]
/-! columns -/
noncomputable def keptS (C : List Str) : List Str := (srt (C.map D.str) (C.map PyData.str)).map strOf
theorem kept_eq (C : List Str) : srt (C.map D.str) (C.map PyData.str) = (keptS C).map D.str := by
  unfold keptS
  rw [List.map_map]
  have : ∀ d ∈ srt (C.map D.str) (C.map PyData.str), (D.str ∘ strOf) d = d := fun d hd => by
    obtain ⟨c, _, rfl⟩ := List.mem_map.mp (srt_mem.mp hd)
    rfl
  exact (List.map_congr_left this).symm ▸ (List.map_id _).symm
theorem kept_mem {C : List Str} {c : Str} : c ∈ keptS C ↔ c ∈ C := by
  have q : D.str c ∈ (keptS C).map D.str ↔ D.str c ∈ C.map D.str := by rw [← kept_eq]; exact srt_mem
  simpa using q
theorem kept_len {C : List Str} : (keptS C).length = C.length := by unfold keptS; rw [List.length_map, srt_len]
theorem py_strs (h : HP) : ∀ C : List Str, (C.map D.str).mapM (toPy 60 h) = some (C.map PyData.str)
  | [] => rfl
  | c :: C => by rw [List.map_cons, List.mapM_cons, py_strs h C]; rfl
open Classical in
theorem sort_cols {C : List Str} (hl : C.length ≤ 1000) (h : HP) : srtG [.stp (C.map D.str)] h = some (.ref h.length, h ++ [.lst ((keptS C).map D.str)]) := by
  have so : SrtOk (C.map PyData.str) := by
    refine ⟨fun p hp q hq => ?_, .inr fun p hp => ?_, fun p hp => ?_, by simp; omega⟩
    · obtain ⟨d, hd, rfl⟩ := List.mem_map.mp hp
      obtain ⟨d2, hd2, rfl⟩ := List.mem_map.mp hq
      simp [PySem.W.alike]
    · obtain ⟨d, hd, rfl⟩ := List.mem_map.mp hp
      exact ⟨(fun z => nomatch z), (fun _ z => nomatch z)⟩
    · obtain ⟨d, hd, rfl⟩ := List.mem_map.mp hp
      simp [PyData.depth]
  show (match (C.map D.str).mapM (toPy 60 h) with | some ps => if SrtOk ps then some (D.ref h.length, h ++ [Ob.lst (srt (C.map D.str) ps)]) else none | none => none) = _
  rw [py_strs]
  dsimp only
  rw [if_pos so, kept_eq]
end K21
end
section
set_option Elab.async false
set_option linter.all false
set_option maxRecDepth 100000
set_option maxHeartbeats 1000000
namespace K21
open PySem L2 PM
local macro_rules | `(tactic| walk_at "pm") => `(tactic| simp only [bind_ok, toS_ok, seq_nx, seq_rt, seq_bk, seq_ct, seq_exc, bind_exc, toS_exc, mSeq_ap, mNext_ap, mSet_ap, kSet_ap, mAsg_ap, kAsg_ap, ofS_some, gN_ap, gTup_ap, gCons_ap, gNil_ap, mDrop_ap, kDrop_ap, mRet_ap, mRetN_ap, mIfS_ap, kIf_t, kIf_f, mBreak_ap, mCont_ap, mBad_ap, mAug_ap, kAug_ap, mVar_ap, mC_ap, m1_ap, k1_ap, m2_ap, k2_ap, k2'_ap, ofO_some, mNil_ap, mCons_ap, kC_ap, kC'_ap, mCall_ap, mB_ap, kB_ap, mMeth_ap, kM_ap, kM'_ap, mTest_ap, kBl_ap, mNot_ap, kNot_ap, mAnd_ap, kAnd_t, kAnd_f, mOr_ap, kOr_t, kOr_f, mIfE_ap, kIfE_t, kIfE_f, mAndV_ap, kAndV_t, kAndV_f, mOrV_ap, kOrV_t, kOrV_f, mNotV_ap, kNotV_ap, mTup_ap, kTup_ap, mLst_ap, kLst_ap, mNoPart_ap, mPart_ap, kInt_ap, mSl_ap, kSl1_ap, kSl2_ap, kSl3_ap, mChain_ap, kCh0_ap, kCh1_ap, kCh2_t, kCh2_f, kCh3_ap, mPutD_ap, kP1_ap, kP2_ap, kP3_ap, runDef_ap, fin_nx, fin_rt, fin_exc, mYes_ap, add_ii, iadd_ii, add_ss, sub_ii, mul_ii, mul_si, mod_ii, fdiv_ii, pow_ii, neg_i, ord_ii, ord_ss, eq_ii, ne_ii, eq_ss, ne_ss, is_non, isn_non, int_i, len_s, len_t, min_ii, sl_s, in_c, nin_c, split_s, str1_ss, find4_s, ty_str, ord_c, iR1_ap, itR1_i, iS_ap, itS_s, iT_ap, itT_t, iE_ap, oD_some, len_r, oLen_l, oLen_r, oKey_s, it_ref, itH_r, itH_t, itH_s, oIH_d, oIH_l, oIH_r, tupF_r, oTupF_l, mTupF_ap, kTupF_ap, seq_t, seq_s, seq_r, oSeq_l, mStar_ap, kSt_ap, kSt1_s, kSt2_ap, lst_d, oLst_s, mTupRev_ap, kRev_t, kRev_s, len_st, min_l, oTy_t, oTy_d, isi_i, isi_s, mIdx_ap, kIx_s, kIxs_ap, kIx1_s, iA_ap, itA_t, itA_s, oItem_d, oItem_l, oItem_r, it_tup, oC_some, it_str, keyD_s, keyD_i, app_r, oApp_l, ext_r, oExt_l, ty_ref, oTy_l, isi_ref, oIsi_l, put_ref, oPut_d, oPutK_s, oBls_s, all_r, oAll_l, tup_r, oTup_l, itE_r, oEnum_l, List.map_cons, List.map_nil, List.length_cons, List.length_nil, List.replicate, List.cons_append, List.nil_append, List.set_cons_zero, List.set_cons_succ, List.getElem?_cons_zero, List.getElem?_cons_succ, Nat.reduceSub, Nat.reduceAdd, Nat.reduceLeDiff, Nat.reduceLT,  cond_true, cond_false, if_true, if_false, ite_true, ite_false, Bool.false_eq_true, reduceIte, Nat.zero_add, Option.bind_some, ne_eq, Int.reduceEq, not_false_eq_true, not_true_eq_false, decide_true, decide_false, Bool.not_true, Bool.not_false, *])

/-! the rows as the keys of a dict -/
def ddF : List (List Key × D) → List D → List (List Key × D)
  | kvs, [] => kvs
  | kvs, d :: ds => ddF (setK kvs (ksOf d) (.bl true)) ds
theorem setK_mem {kvs : List (List Key × D)} {k : List Key} {v : D} : ∀ q ∈ setK kvs k v, q.1 ∈ kvs.map (·.1) ∨ q.1 = k := by
  intro q hq
  unfold setK at hq
  split at hq
  · obtain ⟨p, hp, rfl⟩ := List.mem_map.mp hq
    left
    split
    · exact List.mem_map.mpr ⟨p, hp, rfl⟩
    · exact List.mem_map.mpr ⟨p, hp, rfl⟩
  · rcases List.mem_append.mp hq with h | h
    · exact .inl (List.mem_map.mpr ⟨q, h, rfl⟩)
    · simp at h; subst h; exact .inr rfl
theorem setK_len {kvs : List (List Key × D)} {k : List Key} {v : D} : (setK kvs k v).length ≤ kvs.length + 1 := by
  unfold setK
  split <;> simp
theorem ddF_mem : ∀ {ds : List D} {kvs : List (List Key × D)}, ∀ q ∈ ddF kvs ds, q.1 ∈ kvs.map (·.1) ∨ q.1 ∈ ds.map ksOf
  | [], kvs, q, h => .inl (List.mem_map.mpr ⟨q, h, rfl⟩)
  | d :: ds, kvs, q, h => by
    rcases ddF_mem (ds := ds) (kvs := setK kvs (ksOf d) (.bl true)) q h with h | h
    · obtain ⟨p, hp, e⟩ := List.mem_map.mp h
      rcases setK_mem p hp with h | h
      · exact .inl (e ▸ h)
      · right; rw [List.map_cons, ← e, h]; exact List.mem_cons_self
    · right; rw [List.map_cons]; exact List.mem_cons_of_mem _ h
theorem ddF_len : ∀ {ds : List D} {kvs : List (List Key × D)}, (ddF kvs ds).length ≤ kvs.length + ds.length
  | [], kvs => by simp [ddF]
  | d :: ds, kvs => by
    have := ddF_len (ds := ds) (kvs := setK kvs (ksOf d) (.bl true))
    have := setK_len (kvs := kvs) (k := ksOf d) (v := .bl true)
    simp only [ddF, List.length_cons]; omega
theorem dc_rows {h0 : HP} {G : HP → Prop} {s : SD} (hG : ∀ h, X0 h0 h → G h) (s4 : s = [s[0]!, s[1]!, none]) :
    ∀ {ds : List D} {kvs : List (List Key × D)} {h : HP}, (∀ d ∈ ds, ∃ ks : List Key, d = .tup (ks.map kD)) → X0 h0 h → h[h0.length]? = some (.dit kvs) → kvs.length + ds.length ≤ 100000 →
    ∃ h', cLoop G (.one 2) mYes (mPair (mVar 2) (mC (.bl true))) (fun p h' => putD h0.length p.1 p.2 h') h0.length ds s h = .ok (.ref h0.length) h' ∧ X0 h0 h' ∧ h'[h0.length]? = some (.dit (ddF kvs ds))
  | [], kvs, h, _, x, e, _ => ⟨h, by unfold cLoop; rw [if_pos (hG h x)], x, e⟩
  | d :: ds, kvs, h, hd, x, e, hl => by
    obtain ⟨ks, rfl⟩ := hd d List.mem_cons_self
    rw [List.length_cons] at hl
    have ek : ksOf (.tup (ks.map kD)) = ks := RowD.ks (.inl rfl)
    have e1 : putD h0.length (.tup (ks.map kD)) (.bl true) h = some (h.set h0.length (.dit (setK kvs ks (.bl true)))) := by
      unfold putD
      rw [e]
      show (keyDs (ks.map kD)).bind _ = _
      rw [keyDs_map]
      show (if kvs.length < 1000000 then _ else _) = _
      rw [if_pos (by omega)]
    have sl := setK_len (kvs := kvs) (k := ks) (v := .bl true)
    obtain ⟨h', e2, x2, e3⟩ := dc_rows hG s4 (ds := ds) (kvs := setK kvs ks (.bl true)) (h := h.set h0.length (.dit (setK kvs ks (.bl true)))) (fun d hd' => hd d (List.mem_cons_of_mem _ hd')) (x.set (Nat.le_refl _) _) (List.getElem?_set_self (get_lt e)) (by omega)
    refine ⟨h', ?_, x2, by rw [e3]; show _ = some (Ob.dit (ddF (setK kvs (ksOf (.tup (ks.map kD))) (.bl true)) ds)); rw [ek]⟩
    unfold cLoop
    rw [if_pos (hG h x)]
    have ep : mPair (mVar 2) (mC (.bl true)) (s.set 2 (some (.tup (ks.map kD)))) h = .ok (.tup (ks.map kD), .bl true) h := by
      rw [s4]; rfl
    have ep0 : (Tg.one 2).put (.tup (ks.map kD)) s = some (s.set 2 (some (.tup (ks.map kD)))) := rfl
    rw [ep0]
    dsimp only
    rw [mYes_ap]
    dsimp only
    rw [ep]
    dsimp only
    rw [e1]
    exact e2
/-! the table -/
noncomputable def rowsD (C : List Str) (xs : List D) : List D :=
  srt ((ddF [] (xs.map (prD C (keptS C)))).map fun q => .tup (q.1.map kD)) ((ddF [] (xs.map (prD C (keptS C)))).map fun q => ordP (.tup (q.1.map kD)))
noncomputable def tabD (C : List Str) (xs : List D) : D := .tup [.stp ((keptS C).map D.str), .tup (rowsD C xs)]
theorem prD_ks {C names : List Str} {d : D} : ksOf (prD C names d) = prj C names (ksOf d) := RowD.ks (.inl rfl)
theorem rowsD_mem {C : List Str} {xs : List D} {d : D} (h : d ∈ rowsD C xs) : ∃ x ∈ xs, d = prD C (keptS C) x := by
  obtain ⟨q, hq, rfl⟩ := List.mem_map.mp (srt_mem.mp h)
  rcases ddF_mem q hq with h | h
  · simp at h
  · rw [List.map_map] at h
    obtain ⟨x, hx, e⟩ := List.mem_map.mp h
    refine ⟨x, hx, ?_⟩
    rw [← e]
    show D.tup ((ksOf (prD C (keptS C) x)).map kD) = _
    rw [prD_ks]; rfl
theorem rowsD_len {C : List Str} {xs : List D} : (rowsD C xs).length ≤ xs.length := by
  unfold rowsD
  rw [srt_len]
  have := ddF_len (ds := xs.map (prD C (keptS C))) (kvs := [])
  simpa using this
theorem getD_isL {ks : List Key} {j : Nat} : isL (ks.getD j (.inl 0)) = (ks.map isL).getD j true := by
  rw [List.getD_eq_getElem?_getD, List.getD_eq_getElem?_getD, List.getElem?_map]
  cases ks[j]? <;> rfl
def kdOf (C names : List Str) (kd : List Bool) : List Bool := names.map fun nm => kd.getD (ix C nm) true
theorem prj_kd {C names : List Str} {ks : List Key} : (prj C names ks).map isL = kdOf C names (ks.map isL) := by
  unfold prj kdOf
  rw [List.map_map]
  exact List.map_congr_left fun nm _ => getD_isL
theorem rows_prj {C names : List Str} {kd : List Bool} {xs : List D} (r : Rows C kd xs) : Rows names (kdOf C names kd) (xs.map (prD C names)) := by
  intro d hd
  obtain ⟨x, hx, rfl⟩ := List.mem_map.mp hd
  refine ⟨⟨?_, ?_⟩, ?_⟩
  · rw [prD_ks]; exact .inl rfl
  · rw [prD_ks]; unfold prj; simp
  · rw [prD_ks, prj_kd, (r x hx).2]
theorem rowsD_rows {C : List Str} {kd : List Bool} {xs : List D} (r : Rows C kd xs) : Rows (keptS C) (kdOf C (keptS C) kd) (rowsD C xs) := by
  intro d hd
  obtain ⟨x, hx, rfl⟩ := rowsD_mem hd
  exact rows_prj r _ (List.mem_map.mpr ⟨x, hx, rfl⟩)
/-- the different rows, ascending -/
noncomputable def rioD (ys : List D) : List D := srt ((ddF [] ys).map fun q => .tup (q.1.map kD)) ((ddF [] ys).map fun q => ordP (.tup (q.1.map kD)))
theorem rio_ok {C : List Str} {kd : List Bool} {R : D} {ys : List D} {h : HP} (hr : It R h ys) (ht : ∀ d ∈ ys, ∃ ks : List Key, d = .tup (ks.map kD)) (r2 : Rows C kd ys) (l1 : C.length ≤ 1000) (l2 : ys.length ≤ 1000) :
    ∃ h', m_rows_in_order [R] h = .ok (.tup (rioD ys)) h' ∧ X0 h h' := by
  obtain ⟨G, g⟩ := hr
  obtain ⟨h3, e3, x3, g3⟩ := dc_rows (h0 := h) (s := [some R, none, none]) (G := G) (fun h' x => (g h' x).2) rfl (ds := ys) (kvs := []) (h := h ++ [.dit []]) ht (X0.app _ _) last_get (by simp; omega)
  have rr : Rows C kd ((ddF [] ys).map fun q => .tup (q.1.map kD)) := by
    intro d hd
    obtain ⟨q, hq, rfl⟩ := List.mem_map.mp hd
    rcases ddF_mem q hq with hm | hm
    · simp at hm
    · obtain ⟨y, hy, e⟩ := List.mem_map.mp hm
      obtain ⟨q1, q2⟩ := r2 y hy
      have ek : ksOf (.tup (q.1.map kD)) = q.1 := RowD.ks (.inl rfl)
      refine ⟨⟨by rw [ek]; exact .inl rfl, by rw [ek, ← e]; exact q1.2⟩, by rw [ek, ← e]; exact q2⟩
  have ll : ((ddF [] ys).map fun q => D.tup (q.1.map kD)).length ≤ 1000 := by
    have := ddF_len (ds := ys) (kvs := [])
    simp at this ⊢
    omega
  obtain ⟨rs, h4, e4, x4, q4⟩ := keys_ok (xs := (ddF [] ys).map fun q => .tup (q.1.map kD)) (h := h3) (fun d hd => ⟨(rr d hd).1.1, by rw [(rr d hd).1.2]; exact l1⟩)
  have e5 : srtK m_u_order_of_row [.ref h.length] h3 = .ok (.ref h4.length) (h4 ++ [.lst (rioD ys)]) := by
    unfold srtK
    have ec : collG (.ref h.length) h3 = some ((ddF [] ys).map fun q => .tup (q.1.map kD)) := by
      unfold collG
      dsimp only
      rw [g3]
    dsimp only
    rw [ec]
    dsimp only
    rw [e4]
    dsimp only
    rw [q4 h4 (X0.refl _)]
    dsimp only
    rw [if_pos (srt_ok rr (by omega))]
    unfold rioD
    rw [List.map_map]
    rfl
  have g5 : (h4 ++ [Ob.lst (rioD ys)])[h4.length]? = some (.lst (rioD ys)) := last_get
  refine ⟨h4 ++ [.lst (rioD ys)], ?_, x3.trans (x4.trans (X0.app _ _))⟩
  have ed : mDc (dEo true) (iA (mVar 0)) (.one 2) mYes (mVar 2) (mC (.bl true)) [some R, none, none] h = .ok (.ref h.length) h3 := by
    have ei : iA (mVar 0) [some R, none, none] h = .ok (ys, G) h := by
      have e6 := (g h (X0.refl _)).1
      clear e3 e4 e5 g3 g5 q4
      walk_at "pm"
    unfold mDc
    rw [ei]
    exact e3
  have ek : mSrtK m_u_order_of_row (mCons (mVar 1) mNil) [some R, some (.ref h.length), none] h3 = .ok (.ref h4.length) (h4 ++ [.lst (rioD ys)]) := by
    unfold mSrtK
    exact e5
  unfold m_rows_in_order b_rows_in_order
  clear e3 e4 e5 q4 g3
  walk_at "pm"
theorem mt_ok {C : List Str} {kd : List Bool} {R : D} {xs : List D} {h : HP} (hr : It R h xs) (r : Rows C kd xs) (l1 : C.length ≤ 1000) (l2 : xs.length ≤ 1000) :
    ∃ h', m_make_table [.stp (C.map D.str), R] h = .ok (tabD C xs) h' ∧ X0 h h' := by
  have e1 := sort_cols l1 h
  have x1 : X0 h (h ++ [Ob.lst ((keptS C).map D.str)]) := X0.app _ _
  have g1 : (h ++ [Ob.lst ((keptS C).map D.str)])[h.length]? = some (.lst ((keptS C).map D.str)) := last_get
  obtain ⟨n, h2, e2, x2, _, g2⟩ := vin_ok (C := C) (names := keptS C) (R := R) (Kn := .stp ((keptS C).map D.str)) (h := h ++ [Ob.lst ((keptS C).map D.str)]) It.stp (hr.mono x1) (fun d hd => (r d hd).1) (fun nm hm => kept_mem.mp hm) (by rw [kept_len]; exact l1) l2
  have hi : It (.ref n) h2 (xs.map (prD C (keptS C))) := It.lst g2
  obtain ⟨h3, e3, x3⟩ := rio_ok hi (fun d hd => by
    obtain ⟨x, _, rfl⟩ := List.mem_map.mp hd
    exact ⟨_, rfl⟩) (rows_prj (names := keptS C) r) (by rw [kept_len]; exact l1) (by simpa using l2)
  have ed : rioD (xs.map (prD C (keptS C))) = rowsD C xs := rfl
  rw [ed] at e3
  refine ⟨h3, ?_, (x1.trans x2).trans x3⟩
  unfold m_make_table b_make_table tabD
  clear hr hi g2 r ed
  walk_at "pm"
end K21
end
section
set_option Elab.async false
set_option linter.all false
set_option maxRecDepth 100000
set_option maxHeartbeats 1000000
namespace K21
open PySem L2 PM
local macro_rules | `(tactic| walk_at "pm") => `(tactic| simp only [bind_ok, toS_ok, seq_nx, seq_rt, seq_bk, seq_ct, seq_exc, bind_exc, toS_exc, mSeq_ap, mNext_ap, mSet_ap, kSet_ap, mAsg_ap, kAsg_ap, ofS_some, gN_ap, gTup_ap, gCons_ap, gNil_ap, mDrop_ap, kDrop_ap, mRet_ap, mRetN_ap, mIfS_ap, kIf_t, kIf_f, mBreak_ap, mCont_ap, mBad_ap, mAug_ap, kAug_ap, mVar_ap, mC_ap, m1_ap, k1_ap, m2_ap, k2_ap, k2'_ap, ofO_some, mNil_ap, mCons_ap, kC_ap, kC'_ap, mCall_ap, mB_ap, kB_ap, mMeth_ap, kM_ap, kM'_ap, mTest_ap, kBl_ap, mNot_ap, kNot_ap, mAnd_ap, kAnd_t, kAnd_f, mOr_ap, kOr_t, kOr_f, mIfE_ap, kIfE_t, kIfE_f, mAndV_ap, kAndV_t, kAndV_f, mOrV_ap, kOrV_t, kOrV_f, mNotV_ap, kNotV_ap, mTup_ap, kTup_ap, mLst_ap, kLst_ap, mNoPart_ap, mPart_ap, kInt_ap, mSl_ap, kSl1_ap, kSl2_ap, kSl3_ap, mChain_ap, kCh0_ap, kCh1_ap, kCh2_t, kCh2_f, kCh3_ap, mPutD_ap, kP1_ap, kP2_ap, kP3_ap, runDef_ap, fin_nx, fin_rt, fin_exc, mYes_ap, add_ii, iadd_ii, add_ss, sub_ii, mul_ii, mul_si, mod_ii, fdiv_ii, pow_ii, neg_i, ord_ii, ord_ss, eq_ii, ne_ii, eq_ss, ne_ss, is_non, isn_non, int_i, len_s, len_t, min_ii, sl_s, in_c, nin_c, split_s, str1_ss, find4_s, ty_str, ord_c, iR1_ap, itR1_i, iS_ap, itS_s, iT_ap, itT_t, iE_ap, oD_some, len_r, oLen_l, oLen_r, oKey_s, it_ref, itH_r, itH_t, itH_s, oIH_d, oIH_l, oIH_r, tupF_r, oTupF_l, mTupF_ap, kTupF_ap, seq_t, seq_s, seq_r, oSeq_l, mStar_ap, kSt_ap, kSt1_s, kSt2_ap, lst_d, oLst_s, mTupRev_ap, kRev_t, kRev_s, len_st, min_l, oTy_t, oTy_d, isi_i, isi_s, mIdx_ap, kIx_s, kIxs_ap, kIx1_s, iA_ap, itA_t, itA_s, oItem_d, oItem_l, oItem_r, it_tup, oC_some, it_str, keyD_s, keyD_i, app_r, oApp_l, ext_r, oExt_l, ty_ref, oTy_l, isi_ref, oIsi_l, put_ref, oPut_d, oPutK_s, oBls_s, all_r, oAll_l, tup_r, oTup_l, itE_r, oEnum_l, List.map_cons, List.map_nil, List.length_cons, List.length_nil, List.replicate, List.cons_append, List.nil_append, List.set_cons_zero, List.set_cons_succ, List.getElem?_cons_zero, List.getElem?_cons_succ, Nat.reduceSub, Nat.reduceAdd, Nat.reduceLeDiff, Nat.reduceLT,  cond_true, cond_false, if_true, if_false, ite_true, ite_false, Bool.false_eq_true, reduceIte, Nat.zero_add, Option.bind_some, ne_eq, Int.reduceEq, not_false_eq_true, not_true_eq_false, decide_true, decide_false, Bool.not_true, Bool.not_false, *])

theorem tabD_congr {C : List Str} {xs ys : List D} (e : xs.map ksOf = ys.map ksOf) : tabD C xs = tabD C ys := by
  have q : xs.map (prD C (keptS C)) = ys.map (prD C (keptS C)) := by
    have f : ∀ zs : List D, zs.map (prD C (keptS C)) = (zs.map ksOf).map (fun ks => D.tup ((prj C (keptS C) ks).map kD)) := fun zs => by rw [List.map_map]; rfl
    rw [f, f, e]
  unfold tabD rowsD
  rw [q]
/-! the functions -/
def agg (f : Str) (vs : List Int) : Int :=
  if f = "count" then vs.length else if f = "sum" then vs.sum else if f = "least" then least (vs.headD 0) vs.tail else most (vs.headD 0) vs.tail
theorem ints_map : ∀ vs : List Int, intsD (vs.map D.int) = some vs
  | [] => rfl
  | v :: vs => by rw [List.map_cons]; unfold intsD; rw [ints_map vs]; rfl
theorem listI_r {h : HP} {n : Nat} {vs : List Int} (e : h[n]? = some (.lst (vs.map D.int))) : listI [.ref n] h = some vs := by
  unfold listI; dsimp only; rw [e]; dsimp only; rw [ints_map]
theorem vo_count {h : HP} {r : Nat} {xs : List D} (e : h[r]? = some (.lst xs)) : m_value_over [.str "count", .ref r] h = .ok (.int xs.length) h := by
  unfold m_value_over b_value_over
  walk_at "pm"
theorem vo_num {h : HP} {r : Nat} {f : Str} {v : Int} {vs : List Int} (hf : f = "sum" ∨ f = "least" ∨ f = "most") (e : h[r]? = some (.lst ((v :: vs).map fun i => .tup [.int i]))) (hl : vs.length ≤ 1000) :
    ∃ h', m_value_over [.str f, .ref r] h = .ok (.int (agg f (v :: vs))) h' ∧ X0 h h' := by
  obtain ⟨h1, e1, a1⟩ := lc_all (it := iA (mVar 1)) (tg := .one 3) (el := m2 itemH (mVar 3) (mC (.int 0))) (s := [some (.str f), some (.ref r), none, none]) (f := fun d => match d with | .tup [.int i] => .int i | _ => .non) (It.lst e) (fun G e => by rw [← e]; rfl)
    (fun d hd h' _ => by
      obtain ⟨i, _, rfl⟩ := List.mem_map.mp hd
      exact ⟨_, h', rfl, rfl, X0.refl _⟩) (by simp; omega)
  rw [List.map_map] at a1
  have a2 : h1[h.length]? = some (.lst ((v :: vs).map D.int)) := a1.2
  have li := listI_r a2
  have q1 : sumL [.ref h.length] h1 = some (.int (v :: vs).sum, h1) := by unfold sumL; rw [li]; rfl
  have q2 : minL [.ref h.length] h1 = some (.int (least v vs), h1) := by unfold minL; rw [li]
  have q3 : maxL [.ref h.length] h1 = some (.int (most v vs), h1) := by unfold maxL; rw [li]
  refine ⟨h1, ?_, a1.1⟩
  unfold m_value_over b_value_over
  generalize hh : (v :: vs) = l at *
  clear e li a1 a2
  rcases hf with rfl | rfl | rfl
  · have c1 : ((("sum" : Str) = ("count" : Str))) = False := by simp; decide
    have ag : agg "sum" l = l.sum := by unfold agg; rw [if_neg (by decide), if_pos rfl]
    rw [ag]
    clear q2 q3 hh
    walk_at "pm"
  · have c1 : ((("least" : Str) = ("count" : Str))) = False := by simp; decide
    have c2 : ((("least" : Str) = ("sum" : Str))) = False := by simp; decide
    have ag : agg "least" l = least v vs := by rw [← hh]; unfold agg; rw [if_neg (by decide), if_neg (by decide), if_pos rfl]; rfl
    rw [ag]
    clear q1 q3 hh
    walk_at "pm"
  · have c1 : ((("most" : Str) = ("count" : Str))) = False := by simp; decide
    have c2 : ((("most" : Str) = ("sum" : Str))) = False := by simp; decide
    have c3 : ((("most" : Str) = ("least" : Str))) = False := by simp; decide
    have ag : agg "most" l = most v vs := by rw [← hh]; unfold agg; rw [if_neg (by decide), if_neg (by decide), if_neg (by decide)]; rfl
    rw [ag]
    clear q1 q2 hh
    walk_at "pm"
end K21
end
section
set_option Elab.async false
set_option linter.all false
set_option maxRecDepth 100000
set_option maxHeartbeats 1000000
namespace K21
open PySem L2 PM
local macro_rules | `(tactic| walk_at "pm") => `(tactic| simp only [bind_ok, toS_ok, seq_nx, seq_rt, seq_bk, seq_ct, seq_exc, bind_exc, toS_exc, mSeq_ap, mNext_ap, mSet_ap, kSet_ap, mAsg_ap, kAsg_ap, ofS_some, gN_ap, gTup_ap, gCons_ap, gNil_ap, mDrop_ap, kDrop_ap, mRet_ap, mRetN_ap, mIfS_ap, kIf_t, kIf_f, mBreak_ap, mCont_ap, mBad_ap, mAug_ap, kAug_ap, mVar_ap, mC_ap, m1_ap, k1_ap, m2_ap, k2_ap, k2'_ap, ofO_some, mNil_ap, mCons_ap, kC_ap, kC'_ap, mCall_ap, mB_ap, kB_ap, mMeth_ap, kM_ap, kM'_ap, mTest_ap, kBl_ap, mNot_ap, kNot_ap, mAnd_ap, kAnd_t, kAnd_f, mOr_ap, kOr_t, kOr_f, mIfE_ap, kIfE_t, kIfE_f, mAndV_ap, kAndV_t, kAndV_f, mOrV_ap, kOrV_t, kOrV_f, mNotV_ap, kNotV_ap, mTup_ap, kTup_ap, mLst_ap, kLst_ap, mNoPart_ap, mPart_ap, kInt_ap, mSl_ap, kSl1_ap, kSl2_ap, kSl3_ap, mChain_ap, kCh0_ap, kCh1_ap, kCh2_t, kCh2_f, kCh3_ap, mPutD_ap, kP1_ap, kP2_ap, kP3_ap, runDef_ap, fin_nx, fin_rt, fin_exc, mYes_ap, add_ii, iadd_ii, add_ss, sub_ii, mul_ii, mul_si, mod_ii, fdiv_ii, pow_ii, neg_i, ord_ii, ord_ss, eq_ii, ne_ii, eq_ss, ne_ss, is_non, isn_non, int_i, len_s, len_t, min_ii, sl_s, in_c, nin_c, split_s, str1_ss, find4_s, ty_str, ord_c, iR1_ap, itR1_i, iS_ap, itS_s, iT_ap, itT_t, iE_ap, oD_some, len_r, oLen_l, oLen_r, oKey_s, it_ref, itH_r, itH_t, itH_s, oIH_d, oIH_l, oIH_r, tupF_r, oTupF_l, mTupF_ap, kTupF_ap, seq_t, seq_s, seq_r, oSeq_l, mStar_ap, kSt_ap, kSt1_s, kSt2_ap, lst_d, oLst_s, mTupRev_ap, kRev_t, kRev_s, len_st, min_l, oTy_t, oTy_d, isi_i, isi_s, mIdx_ap, kIx_s, kIxs_ap, kIx1_s, iA_ap, itA_t, itA_s, oItem_d, oItem_l, oItem_r, it_tup, oC_some, it_str, keyD_s, keyD_i, app_r, oApp_l, ext_r, oExt_l, ty_ref, oTy_l, isi_ref, oIsi_l, put_ref, oPut_d, oPutK_s, oBls_s, all_r, oAll_l, tup_r, oTup_l, itE_r, oEnum_l, List.map_cons, List.map_nil, List.length_cons, List.length_nil, List.replicate, List.cons_append, List.nil_append, List.set_cons_zero, List.set_cons_succ, List.getElem?_cons_zero, List.getElem?_cons_succ, Nat.reduceSub, Nat.reduceAdd, Nat.reduceLeDiff, Nat.reduceLT,  cond_true, cond_false, if_true, if_false, ite_true, ite_false, Bool.false_eq_true, reduceIte, Nat.zero_add, Option.bind_some, ne_eq, Int.reduceEq, not_false_eq_true, not_true_eq_false, decide_true, decide_false, Bool.not_true, Bool.not_false, *])

/-! keys in the order in which they come first -/
open Classical in
noncomputable def fst1 (acc : List (List Key)) (k : List Key) : List (List Key) := if k ∈ acc then acc else acc ++ [k]
noncomputable def firsts (ks : List (List Key)) : List (List Key) := ks.foldl fst1 []
theorem firsts_snoc {ks : List (List Key)} {k : List Key} : firsts (ks ++ [k]) = fst1 (firsts ks) k := by unfold firsts; rw [List.foldl_append]; rfl
theorem fold_mem : ∀ {ks acc : List (List Key)} {k : List Key}, k ∈ ks.foldl fst1 acc ↔ k ∈ acc ∨ k ∈ ks
  | [], acc, k => by simp
  | x :: ks, acc, k => by
    rw [List.foldl_cons, fold_mem, List.mem_cons]
    unfold fst1
    split
    · rename_i hx
      constructor
      · rintro (h | h); exact .inl h; exact .inr (.inr h)
      · rintro (h | rfl | h); exact .inl h; exact .inl hx; exact .inr h
    · simp only [List.mem_append, List.mem_singleton]
      constructor
      · rintro ((h | h) | h); exact .inl h; exact .inr (.inl h); exact .inr (.inr h)
      · rintro (h | h | h); exact .inl (.inl h); exact .inl (.inr h); exact .inr h
theorem firsts_mem {ks : List (List Key)} {k : List Key} : k ∈ firsts ks ↔ k ∈ ks := by unfold firsts; rw [fold_mem]; simp
theorem fold_nodup : ∀ {ks acc : List (List Key)}, acc.Nodup → (ks.foldl fst1 acc).Nodup
  | [], acc, h => h
  | x :: ks, acc, h => by
    rw [List.foldl_cons]
    refine fold_nodup ?_
    unfold fst1
    split
    · exact h
    · rename_i hx
      refine List.nodup_append.mpr ⟨h, by simp, fun a ha b hb e => ?_⟩
      simp at hb
      subst hb e
      exact hx ha
theorem fold_len : ∀ {ks acc : List (List Key)}, (ks.foldl fst1 acc).length ≤ acc.length + ks.length
  | [], acc => by simp
  | x :: ks, acc => by
    rw [List.foldl_cons]
    have := fold_len (ks := ks) (acc := fst1 acc x)
    have : (fst1 acc x).length ≤ acc.length + 1 := by unfold fst1; split <;> simp
    simp only [List.length_cons]; omega
theorem firsts_nodup {ks : List (List Key)} : (firsts ks).Nodup := fold_nodup List.nodup_nil
/-! the groups -/
abbrev Gs := List (List Key × Nat)
def gD (gs : Gs) : List (List Key × D) := gs.map fun g => (g.1, .ref g.2)
theorem getK_none {gs : Gs} {k : List Key} (h : k ∉ gs.map (·.1)) : getK (gD gs) k = none := by
  unfold getK gD
  rw [List.find?_eq_none.mpr]; rfl
  intro p hp
  obtain ⟨g, hg, rfl⟩ := List.mem_map.mp hp
  simp only [decide_eq_true_eq]
  rintro rfl
  exact h (List.mem_map.mpr ⟨g, hg, rfl⟩)
theorem getK_some : ∀ {gs : Gs} {g : List Key × Nat}, (gs.map (·.1)).Nodup → g ∈ gs → getK (gD gs) g.1 = some (.ref g.2)
  | [], g, _, h => by cases h
  | a :: gs, g, hn, h => by
    rw [List.map_cons, List.nodup_cons] at hn
    unfold gD
    rw [List.map_cons]
    rcases List.mem_cons.mp h with rfl | h
    · exact getK_h' 
    · have ne : a.1 ≠ g.1 := fun e => hn.1 (e ▸ List.mem_map.mpr ⟨g, h, rfl⟩)
      have := getK_some hn.2 h
      unfold gD at this
      simp only [getK, List.find?_cons, decide_eq_false ne] at this ⊢
      exact this
where getK_h' {kvs : List (List Key × D)} {k : List Key} {v : D} : getK ((k, v) :: kvs) k = some v := by simp [getK, List.find?_cons]
theorem setK_new {gs : Gs} {k : List Key} {r : Nat} (h : k ∉ gs.map (·.1)) : setK (gD gs) k (.ref r) = gD (gs ++ [(k, r)]) := by
  unfold setK gD
  rw [if_neg]
  · simp
  · rw [List.any_eq_true]
    rintro ⟨p, hp, e⟩
    obtain ⟨g, hg, rfl⟩ := List.mem_map.mp hp
    simp only [decide_eq_true_eq] at e
    exact h (List.mem_map.mpr ⟨g, hg, e⟩)
/-- what the first loop of group keeps: κ the key, ν the values of a row; b the heap's length, F the dict, h0 the heap before -/
structure GI (κ : D → List Key) (ν : D → D) (F : Nat) (h0 : HP) (P : List D) (gs : Gs) (h : HP) : Prop where
  len : h0.length ≤ h.length
  old : ∀ (k : Nat) (o : Ob), k ≠ F → h0[k]? = some o → h[k]? = some o
  lt : F < h0.length
  dic : h[F]? = some (.dit (gD gs))
  keys : gs.map (·.1) = firsts (P.map κ)
  at' : ∀ g ∈ gs, h0.length ≤ g.2 ∧ h[g.2]? = some (.lst ((P.filter fun d => decide (κ d = g.1)).map ν))
  nd : (gs.map (·.2)).Nodup
theorem g1_step {κs : List Key} {F r : Nat} {v : D} {h h2 : HP} {kvs : List (List Key × D)} {vals : List D} {x0 x1 x2 x3 x4 x5 x9 : Option D} (e1 : h[F]? = some (.dit kvs)) (e2 : setdG (.ref F) [.tup (κs.map kD), .ref h.length] (h ++ [.lst []]) = some (.ref r, h2)) (e3 : h2[r]? = some (.lst vals)) (hl : vals.length < 1000000) :
    L_group_1 [x0, x1, x2, x3, x4, x5, some (.ref F), some (.tup (κs.map kD)), some v, x9] h = .nx [x0, x1, x2, x3, x4, x5, some (.ref F), some (.tup (κs.map kD)), some v, x9] (h2.set r (.lst (vals ++ [v]))) := by
  unfold L_group_1
  walk_at "pm"
theorem filter_snoc {P : List D} {d : D} {p : D → Bool} : (P ++ [d]).filter p = P.filter p ++ (if p d = true then [d] else []) := by
  rw [List.filter_append]; congr 1
  by_cases h : p d = true <;> simp [h]
theorem gi_step {κ : D → List Key} {ν : D → D} {F : Nat} {h0 : HP} {P : List D} {gs : Gs} {h : HP} {d : D} (i : GI κ ν F h0 P gs h) (hl : P.length ≤ 1000) {x0 x1 x2 x3 x4 x5 x9 : Option D} :
    ∃ gs' h', L_group_1 [x0, x1, x2, x3, x4, x5, some (.ref F), some (.tup ((κ d).map kD)), some (ν d), x9] h = .nx [x0, x1, x2, x3, x4, x5, some (.ref F), some (.tup ((κ d).map kD)), some (ν d), x9] h' ∧ GI κ ν F h0 (P ++ [d]) gs' h' := by
  have hF : F < h.length := get_lt i.dic
  have kn : (gs.map (·.1)).Nodup := by rw [i.keys]; exact firsts_nodup
  have gl : gs.length ≤ P.length := by
    have : (gs.map (·.1)).length ≤ (P.map κ).length := by
      rw [i.keys]
      have := fold_len (ks := P.map κ) (acc := [])
      simpa [firsts] using this
    simpa using this
  have dl : (gD gs).length < 1000000 := by unfold gD; rw [List.length_map]; omega
  have eF : (h ++ [Ob.lst []])[F]? = some (.dit (gD gs)) := by rw [List.getElem?_append_left hF]; exact i.dic
  have kt : keyT (.tup ((κ d).map kD)) = some (κ d) := keyDs_map _
  have sd : setdG (.ref F) [.tup ((κ d).map kD), .ref h.length] (h ++ [.lst []]) = (match getK (gD gs) (κ d) with
      | some d => some (d, h ++ [Ob.lst []])
      | none => some (.ref h.length, (h ++ [Ob.lst []]).set F (.dit (setK (gD gs) (κ d) (.ref h.length))))) := by
    unfold setdG
    dsimp only
    rw [eF]
    dsimp only
    rw [if_pos dl, kt]
    rfl
  by_cases hk : κ d ∈ gs.map (·.1)
  · obtain ⟨g, hg, eg⟩ := List.mem_map.mp hk
    have e5 := getK_some kn hg
    rw [eg] at e5
    rw [e5] at sd
    obtain ⟨gb, ga⟩ := i.at' g hg
    have gF : g.2 ≠ F := by have := i.lt; omega
    have gh : g.2 < h.length := get_lt ga
    have e6 : (h ++ [Ob.lst []])[g.2]? = some (Ob.lst ((P.filter fun d => decide (κ d = g.1)).map ν)) := by rw [List.getElem?_append_left gh]; exact ga
    have fl : ((P.filter fun d => decide (κ d = g.1)).map ν).length ≤ P.length := by rw [List.length_map]; exact List.length_filter_le _ _
    refine ⟨gs, _, g1_step i.dic sd e6 (by omega), ?_⟩
    refine ⟨by simp; have := i.len; omega, fun k o nk e => ?_, i.lt, ?_, ?_, fun g2 hg2 => ?_, i.nd⟩
    · have := get_lt e
      rw [List.getElem?_set_ne (by omega)]
      rw [List.getElem?_append_left (by have := i.len; omega)]
      exact i.old k o nk e
    · rw [List.getElem?_set_ne gF]; exact eF
    · rw [List.map_append, List.map_cons, List.map_nil, firsts_snoc, ← i.keys]
      unfold fst1
      rw [if_pos hk]
    · obtain ⟨b2, a2⟩ := i.at' g2 hg2
      refine ⟨b2, ?_⟩
      by_cases e7 : g2.1 = g.1
      · have e8 : g2 = g := by
          have q := getK_some kn hg2
          rw [e7, eg, e5] at q
          cases g2; cases g
          simp at q e7
          simp [q, e7]
        subst e8
        rw [List.getElem?_set_self (by simp; omega), filter_snoc, if_pos (by rw [decide_eq_true_eq]; exact eg.symm), List.map_append]
        rfl
      · have n2 : g.2 ≠ g2.2 := fun e => e7 (by
          have := nd_inj i.nd hg hg2 e
          rw [this])
        rw [List.getElem?_set_ne n2, List.getElem?_append_left (get_lt a2), a2, filter_snoc, if_neg (by rw [decide_eq_true_eq, ← eg]; exact fun e => e7 e.symm), List.append_nil]
  · rw [getK_none hk] at sd
    have Fh : F ≠ h.length := by omega
    have e6 : ((h ++ [Ob.lst []]).set F (.dit (setK (gD gs) (κ d) (.ref h.length))))[h.length]? = some (.lst []) := by
      rw [List.getElem?_set_ne Fh]; exact last_get
    refine ⟨gs ++ [(κ d, h.length)], _, g1_step i.dic sd e6 (by simp), ?_⟩
    have old : ∀ (k : Nat) (o : Ob), k ≠ F → h[k]? = some o → (((h ++ [Ob.lst []]).set F (.dit (setK (gD gs) (κ d) (.ref h.length)))).set h.length (.lst ([] ++ [ν d])))[k]? = some o := fun k o nk e => by
      have := get_lt e
      rw [List.getElem?_set_ne (by omega), List.getElem?_set_ne (Ne.symm nk), List.getElem?_append_left this]
      exact e
    refine ⟨by simp; have := i.len; omega, fun k o nk e => old k o nk (i.old k o nk e), i.lt, ?_, ?_, fun g2 hg2 => ?_, ?_⟩
    · rw [List.getElem?_set_ne (Ne.symm Fh), List.getElem?_set_self (by rw [List.length_append]; omega), setK_new hk]
    · rw [List.map_append, List.map_append, List.map_cons, List.map_nil, List.map_cons, List.map_nil, firsts_snoc, ← i.keys]
      unfold fst1
      rw [if_neg hk]
    · rcases List.mem_append.mp hg2 with hg2 | hg2
      · obtain ⟨b2, a2⟩ := i.at' g2 hg2
        refine ⟨b2, ?_⟩
        have nk : κ d ≠ g2.1 := fun e => hk (e ▸ List.mem_map.mpr ⟨g2, hg2, rfl⟩)
        rw [old _ _ (by have := i.lt; omega) a2, filter_snoc, if_neg (by rw [decide_eq_true_eq]; exact nk), List.append_nil]
      · simp at hg2
        subst hg2
        refine ⟨i.len, ?_⟩
        show _ = some (Ob.lst ((List.filter (fun d_1 => decide (κ d_1 = κ d)) (P ++ [d])).map ν))
        rw [List.getElem?_set_self (by simp), filter_snoc, if_pos (decide_eq_true rfl)]
        have : P.filter (fun x => decide (κ x = κ d)) = [] := by
          rw [List.filter_eq_nil_iff]
          intro x hx
          rw [decide_eq_true_eq]
          intro e
          refine hk ?_
          rw [i.keys, firsts_mem, ← e]
          exact List.mem_map.mpr ⟨x, hx, rfl⟩
        rw [this]; rfl
    · rw [List.map_append, List.map_cons, List.map_nil]
      refine List.nodup_append.mpr ⟨i.nd, by simp, fun a ha b hb e => ?_⟩
      simp at hb
      subst hb e
      obtain ⟨g, hg, eg⟩ := List.mem_map.mp ha
      have := get_lt (i.at' g hg).2
      omega
where nd_inj : ∀ {gs : Gs} {a b : List Key × Nat}, (gs.map (·.2)).Nodup → a ∈ gs → b ∈ gs → a.2 = b.2 → a = b
  | [], a, b, _, h, _, _ => by cases h
  | x :: gs, a, b, hn, ha, hb, e => by
    rw [List.map_cons, List.nodup_cons] at hn
    rcases List.mem_cons.mp ha with h1 | h1
    · rcases List.mem_cons.mp hb with h2 | h2
      · rw [h1, h2]
      · exact absurd (List.mem_map.mpr ⟨b, h2, by rw [← e, h1]⟩) hn.1
    · rcases List.mem_cons.mp hb with h2 | h2
      · exact absurd (List.mem_map.mpr ⟨a, h1, by rw [e, h2]⟩) hn.1
      · exact nd_inj hn.2 h1 h2 e
end K21
end
section
set_option Elab.async false
set_option linter.all false
set_option maxRecDepth 100000
set_option maxHeartbeats 2000000
namespace K21
open PySem L2 PM
local macro_rules | `(tactic| walk_at "pm") => `(tactic| simp only [bind_ok, toS_ok, seq_nx, seq_rt, seq_bk, seq_ct, seq_exc, bind_exc, toS_exc, mSeq_ap, mNext_ap, mSet_ap, kSet_ap, mAsg_ap, kAsg_ap, ofS_some, gN_ap, gTup_ap, gCons_ap, gNil_ap, mDrop_ap, kDrop_ap, mRet_ap, mRetN_ap, mIfS_ap, kIf_t, kIf_f, mBreak_ap, mCont_ap, mBad_ap, mAug_ap, kAug_ap, mVar_ap, mC_ap, m1_ap, k1_ap, m2_ap, k2_ap, k2'_ap, ofO_some, mNil_ap, mCons_ap, kC_ap, kC'_ap, mCall_ap, mB_ap, kB_ap, mMeth_ap, kM_ap, kM'_ap, mTest_ap, kBl_ap, mNot_ap, kNot_ap, mAnd_ap, kAnd_t, kAnd_f, mOr_ap, kOr_t, kOr_f, mIfE_ap, kIfE_t, kIfE_f, mAndV_ap, kAndV_t, kAndV_f, mOrV_ap, kOrV_t, kOrV_f, mNotV_ap, kNotV_ap, mTup_ap, kTup_ap, mLst_ap, kLst_ap, mNoPart_ap, mPart_ap, kInt_ap, mSl_ap, kSl1_ap, kSl2_ap, kSl3_ap, mChain_ap, kCh0_ap, kCh1_ap, kCh2_t, kCh2_f, kCh3_ap, mPutD_ap, kP1_ap, kP2_ap, kP3_ap, runDef_ap, fin_nx, fin_rt, fin_exc, mYes_ap, add_ii, iadd_ii, add_ss, sub_ii, mul_ii, mul_si, mod_ii, fdiv_ii, pow_ii, neg_i, ord_ii, ord_ss, eq_ii, ne_ii, eq_ss, ne_ss, is_non, isn_non, int_i, len_s, len_t, min_ii, sl_s, in_c, nin_c, split_s, str1_ss, find4_s, ty_str, ord_c, iR1_ap, itR1_i, iS_ap, itS_s, iT_ap, itT_t, iE_ap, oD_some, len_r, oLen_l, oLen_r, oKey_s, it_ref, itH_r, itH_t, itH_s, oIH_d, oIH_l, oIH_r, tupF_r, oTupF_l, mTupF_ap, kTupF_ap, seq_t, seq_s, seq_r, oSeq_l, mStar_ap, kSt_ap, kSt1_s, kSt2_ap, lst_d, oLst_s, mTupRev_ap, kRev_t, kRev_s, len_st, min_l, oTy_t, oTy_d, isi_i, isi_s, mIdx_ap, kIx_s, kIxs_ap, kIx1_s, iA_ap, itA_t, itA_s, oItem_d, oItem_l, oItem_r, it_tup, oC_some, it_str, keyD_s, keyD_i, app_r, oApp_l, ext_r, oExt_l, ty_ref, oTy_l, isi_ref, oIsi_l, put_ref, oPut_d, oPutK_s, oBls_s, all_r, oAll_l, tup_r, oTup_l, itE_r, oEnum_l, List.map_cons, List.map_nil, List.length_cons, List.length_nil, List.replicate, List.cons_append, List.nil_append, List.set_cons_zero, List.set_cons_succ, List.getElem?_cons_zero, List.getElem?_cons_succ, Nat.reduceSub, Nat.reduceAdd, Nat.reduceLeDiff, Nat.reduceLT,  cond_true, cond_false, if_true, if_false, ite_true, ite_false, Bool.false_eq_true, reduceIte, Nat.zero_add, Option.bind_some, ne_eq, Int.reduceEq, not_false_eq_true, not_true_eq_false, decide_true, decide_false, Bool.not_true, Bool.not_false, *])

theorem g_loop {κ : D → List Key} {ν : D → D} {F : Nat} {h0 : HP} {G : HP → Prop} (hG : ∀ P gs h, GI κ ν F h0 P gs h → G h) {x0 x1 x2 x3 x4 x5 x9 : Option D} :
    ∀ {ds P : List D} {gs : Gs} {h : HP} {x7 x8 : Option D}, GI κ ν F h0 P gs h → P.length + ds.length ≤ 1000 →
    ∃ gs' h' y7 y8, mLoop G (PM.gTup 2 (PM.gCons (gN 7) (PM.gCons (gN 8) PM.gNil))) L_group_1 (ds.map fun d => .tup [.tup ((κ d).map kD), ν d]) [x0, x1, x2, x3, x4, x5, some (.ref F), x7, x8, x9] h = .nx [x0, x1, x2, x3, x4, x5, some (.ref F), y7, y8, x9] h' ∧ GI κ ν F h0 (P ++ ds) gs' h'
  | [], P, gs, h, x7, x8, i, _ => ⟨gs, h, x7, x8, mLoop_nil (hG _ _ _ i), by rw [List.append_nil]; exact i⟩
  | d :: ds, P, gs, h, x7, x8, i, hl => by
    rw [List.length_cons] at hl
    obtain ⟨g2, h2, e2, i2⟩ := gi_step (d := d) i (by omega) (x0 := x0) (x1 := x1) (x2 := x2) (x3 := x3) (x4 := x4) (x5 := x5) (x9 := x9)
    obtain ⟨g3, h3, y7, y8, e3, i3⟩ := g_loop hG (ds := ds) i2 (x7 := some (.tup ((κ d).map kD))) (x8 := some (ν d)) (by simp; omega)
    refine ⟨g3, h3, y7, y8, ?_, by rw [List.append_assoc] at i3; exact i3⟩
    rw [List.map_cons, mLoop_nx (hG _ _ _ i) rfl (.inl e2)]
    exact e3
theorem zip_maps {f g : D → D} : ∀ {ds : List D}, zipD (ds.map f) (ds.map g) = ds.map fun d => .tup [f d, g d]
  | [] => rfl
  | d :: ds => by
    have := zip_maps (f := f) (g := g) (ds := ds)
    unfold zipD at this ⊢
    rw [List.map_cons, List.map_cons, List.map_cons, List.zipWith_cons_cons, this]
theorem lstD_at {h : HP} {n : Nat} {xs : List D} (e : h[n]? = some (.lst xs)) : lstD h n = some xs := by unfold lstD; rw [e]
def gF (W : List Key → Int) (d : D) : D := match d with
  | .tup [.tup ks, _] => .tup (ks ++ [.int (W ((keyDs ks).getD []))])
  | _ => .non
theorem gF_eq {W : List Key → Int} {k : List Key} {v : D} : gF W (.tup [.tup (k.map kD), v]) = .tup ((k ++ [Sum.inl (W k)]).map kD) := by
  show D.tup (k.map kD ++ [.int (W ((keyDs (k.map kD)).getD []))]) = _
  rw [keyDs_map, List.map_append]; rfl
theorem group_ok {C names ms : List Str} {kd : List Bool} {rs : List D} {x f : Str} {y : D} {h : HP} {W : List Key → Int} (r : Rows C kd rs) (hn : ∀ nm ∈ names, nm ∈ C) (hm : ∀ nm ∈ ms, nm ∈ C)
    (hy : (y = .non ∧ ms = names) ∨ ∃ v, y = .str v ∧ ms = [v])
    (hw : ∀ k ∈ rs.map (fun d => prj C names (ksOf d)), ∀ (h : HP) (n : Nat), h[n]? = some (.lst ((rs.filter fun d => decide (prj C names (ksOf d) = k)).map (prD C ms))) → ∃ h', m_value_over [.str f, .ref n] h = .ok (.int (W k)) h' ∧ X0 h h')
    (l1 : names.length ≤ 900) (l2 : rs.length ≤ 1000) :
    ∃ L h', m_group [.tup [.stp (C.map D.str), .tup rs], .str x, .str f, y, .stp (names.map D.str)] h = .ok (tabD (names ++ [x]) L) h' ∧ X0 h h' ∧ L.map ksOf = (firsts (rs.map fun d => prj C names (ksOf d))).map fun k => k ++ [Sum.inl (W k)] := by
  obtain ⟨me, em, im, lm⟩ : ∃ me : D, (∀ (x5 x6 x7 x8 x9 : Option D) h, kIfE (mVar 4) (mTup (mCons (mVar 3) mNil)) [some (.tup [.stp (C.map D.str), .tup rs]), some (.str x), some (.str f), some y, some (.stp (names.map D.str)), x5, x6, x7, x8, x9] (PM.isNon y) h = .ok me h) ∧ (∀ h, It me h (ms.map D.str)) ∧ ms.length ≤ 1000 := by
    rcases hy with ⟨rfl, rfl⟩ | ⟨v, rfl, rfl⟩
    · exact ⟨_, fun _ _ _ _ _ _ => rfl, fun _ => It.stp, by omega⟩
    · exact ⟨_, fun _ _ _ _ _ _ => rfl, fun _ => It.tup, by simp⟩
  have x1 : X0 h (h ++ [Ob.dit []]) := X0.app _ _
  obtain ⟨n1, h2, e2, x2, b2, g2⟩ := vin_ok (C := C) (names := names) (R := .tup rs) (Kn := .stp (names.map D.str)) (h := h ++ [Ob.dit []]) It.stp It.tup (fun d hd => (r d hd).1) hn (by omega) l2
  obtain ⟨n2, h3, e3, x3, b3, g3⟩ := vin_ok (C := C) (names := ms) (R := .tup rs) (Kn := me) (h := h2) (im h2) It.tup (fun d hd => (r d hd).1) hm lm l2
  have g2' := x3.at' _ _ g2
  have gF0 : h3[h.length]? = some (.dit []) := x3.at' _ _ (x2.at' _ _ last_get)
  have hb : h.length < h2.length := by have := x2.len; simp at this; omega
  have nF1 : n1 ≠ h.length := by simp at b2; omega
  have nF2 : n2 ≠ h.length := by omega
  have i0 : GI (fun d => prj C names (ksOf d)) (prD C ms) h.length h3 [] [] h3 := ⟨Nat.le_refl _, fun _ _ _ e => e, get_lt gF0, gF0, rfl, fun _ hg => by simp at hg, by simp⟩
  have eit : itZ [.ref n1, .ref n2] h3 = .ok (rs.map fun d => .tup [prD C names d, prD C ms d], fun h => lstD h n1 = some (rs.map (prD C names)) ∧ lstD h n2 = some (rs.map (prD C ms))) h3 := by
    show (match lstD h3 n1, lstD h3 n2 with | some xs, some ys => R.ok (zipD xs ys, fun h => lstD h n1 = some xs ∧ lstD h n2 = some ys) h3 | _, _ => R.bad) = _
    rw [lstD_at g2', lstD_at g3]
    dsimp only
    rw [zip_maps]
  obtain ⟨gs, h4, y7, y8, e4, i4⟩ := g_loop (ds := rs) (G := fun h => lstD h n1 = some (rs.map (prD C names)) ∧ lstD h n2 = some (rs.map (prD C ms))) (fun P gs h i => ⟨lstD_at (i.old _ _ nF1 g2'), lstD_at (i.old _ _ nF2 g3)⟩) i0 (by simpa using l2)
    (x0 := some (.tup [.stp (C.map D.str), .tup rs])) (x1 := some (.str x)) (x2 := some (.str f)) (x3 := some y) (x4 := some (.stp (names.map D.str))) (x5 := some me) (x9 := none) (x7 := none) (x8 := none)
  rw [List.nil_append] at i4
  have hF4 : h.length < h4.length := get_lt i4.dic
  have d5 : (h4.set h.length (.rdt (gD gs)))[h.length]? = some (.rdt (gD gs)) := List.getElem?_set_self hF4
  have l5 : (h4.set h.length (.rdt (gD gs))).length = h4.length := List.length_set
  have kmem : ∀ g ∈ gs, g.1 ∈ rs.map (fun d => prj C names (ksOf d)) := fun g hg => firsts_mem.mp (by rw [← i4.keys]; exact List.mem_map.mpr ⟨g, hg, rfl⟩)
  have glen : gs.length ≤ 1000 := by
    have := fold_len (ks := rs.map (fun d => prj C names (ksOf d))) (acc := [])
    have e : (gs.map (·.1)).length = (firsts (rs.map (fun d => prj C names (ksOf d)))).length := by rw [i4.keys]
    unfold firsts at e
    simp at e this
    omega
  obtain ⟨h6, e6, a6⟩ := cl_all (h0 := h4.set h.length (.rdt (gD gs))) (G := fun hh => hh[h.length]? = some (.rdt (gD gs))) (tg := .many [7, 9]) (el := mTup (mStar (mVar 7) (mCons (mCall m_value_over (mCons (mVar 2) (mCons (mVar 9) mNil))) mNil)))
    (s := [some (.tup [.stp (C.map D.str), .tup rs]), some (.str x), some (.str f), some y, some (.stp (names.map D.str)), some me, some (.ref h.length), none, y8, none]) (f := gF W) (ds := (gD gs).map fun kv => .tup [.tup (kv.1.map kD), kv.2]) (fun h' x => x.at' _ _ d5)
    (fun d hd h' xx => by
      obtain ⟨kv, hkv, rfl⟩ := List.mem_map.mp hd
      obtain ⟨g, hg, rfl⟩ := List.mem_map.mp hkv
      obtain ⟨b, a⟩ := i4.at' g hg
      have ng : g.2 ≠ h.length := by have := x3.len; omega
      have a' : h'[g.2]? = some (.lst ((rs.filter fun d => decide (prj C names (ksOf d) = g.1)).map (prD C ms))) := xx.at' _ _ (by rw [List.getElem?_set_ne (Ne.symm ng)]; exact a)
      obtain ⟨h7, e7, x7⟩ := hw g.1 (kmem g hg) h' g.2 a'
      refine ⟨_, h7, rfl, ?_, x7⟩
      rw [gF_eq, List.map_append]
      have kl : (g.1.map kD ++ [D.int (W g.1)]).length ≤ 1000000 := by
        obtain ⟨d, _, e⟩ := List.mem_map.mp (kmem g hg)
        have : g.1.length = names.length := by rw [← e]; unfold prj; simp
        simp; omega
      show mTup (mStar (mVar 7) (mCons (mCall m_value_over (mCons (mVar 2) (mCons (mVar 9) mNil))) mNil)) [some (.tup [.stp (C.map D.str), .tup rs]), some (.str x), some (.str f), some y, some (.stp (names.map D.str)), some me, some (.ref h.length), some (.tup (g.1.map kD)), y8, some (.ref g.2)] h' = .ok (.tup (g.1.map kD ++ [.int (W g.1)])) h7
      clear e2 e3 e4 eit em hw a' a
      walk_at "pm") (by simp [gD]; omega)
  have a6' := a6.2
  have d6 : h6[h.length]? = some (.rdt (gD gs)) := a6.1.at' _ _ d5
  have eL : ((gD gs).map fun kv => D.tup [.tup (kv.1.map kD), kv.2]).map (gF W) = gs.map fun g => .tup ((g.1 ++ [Sum.inl (W g.1)]).map kD) := by
    unfold gD
    rw [List.map_map, List.map_map]
    exact List.map_congr_left fun g _ => gF_eq (v := .ref g.2)
  rw [eL] at a6'
  rw [l5] at a6' e6
  have g7 : (h6.set h.length (.dit (gD gs)))[h4.length]? = some (.lst (gs.map fun g => .tup ((g.1 ++ [Sum.inl (W g.1)]).map kD))) := by
    rw [List.getElem?_set_ne (by omega)]; exact a6'
  have hL : (gs.map fun g => D.tup ((g.1 ++ [Sum.inl (W g.1)]).map kD)).map ksOf = (firsts (rs.map fun d => prj C names (ksOf d))).map fun k => k ++ [Sum.inl (W k)] := by
    rw [← i4.keys, List.map_map, List.map_map]
    exact List.map_congr_left fun g _ => RowD.ks (.inl rfl)
  have rL : Rows (names ++ [x]) (kdOf C names kd ++ [true]) (gs.map fun g => D.tup ((g.1 ++ [Sum.inl (W g.1)]).map kD)) := by
    intro d hd
    obtain ⟨g, hg, rfl⟩ := List.mem_map.mp hd
    have ek : ksOf (D.tup ((g.1 ++ [Sum.inl (W g.1)]).map kD)) = g.1 ++ [Sum.inl (W g.1)] := RowD.ks (.inl rfl)
    obtain ⟨d, hd, e⟩ := List.mem_map.mp (kmem g hg)
    have e1 : g.1.length = names.length := by rw [← e]; unfold prj; simp
    have e2 : g.1.map isL = kdOf C names kd := by rw [← e, prj_kd, (r d hd).2]
    refine ⟨⟨by rw [ek]; exact .inl rfl, by rw [ek]; simp [e1]⟩, by rw [ek, List.map_append, e2]; rfl⟩
  obtain ⟨h8, e8, x8⟩ := mt_ok (C := names ++ [x]) (R := .ref h4.length) (h := h6.set h.length (.dit (gD gs))) (It.lst g7) rL (by simp; omega) (by simp; omega)
  refine ⟨_, h8, ?_, ?_, hL⟩
  · have mf : mFor (iZ (mCons (mCall m_u_values_in (mCons (mVar 0) (mCons (mVar 4) mNil))) (mCons (mCall m_u_values_in (mCons (mVar 0) (mCons (mVar 5) mNil))) mNil))) (PM.gTup 2 (PM.gCons (gN 7) (PM.gCons (gN 8) PM.gNil))) L_group_1
        [some (.tup [.stp (C.map D.str), .tup rs]), some (.str x), some (.str f), some y, some (.stp (names.map D.str)), some me, some (.ref h.length), none, none, none] (h ++ [Ob.dit []]) = .nx [some (.tup [.stp (C.map D.str), .tup rs]), some (.str x), some (.str f), some y, some (.stp (names.map D.str)), some me, some (.ref h.length), y7, y8, none] h4 := by
      have ei : iZ (mCons (mCall m_u_values_in (mCons (mVar 0) (mCons (mVar 4) mNil))) (mCons (mCall m_u_values_in (mCons (mVar 0) (mCons (mVar 5) mNil))) mNil)) [some (.tup [.stp (C.map D.str), .tup rs]), some (.str x), some (.str f), some y, some (.stp (names.map D.str)), some me, some (.ref h.length), none, none, none] (h ++ [Ob.dit []]) = itZ [.ref n1, .ref n2] h3 := by
        have iz : ∀ (t : MA) s h, iZ t s h = (t s h).bind itZ := fun _ _ _ => rfl
        clear e4 e6 e8 eit em hw g2 g3 g2' gF0 eL hL
        walk_at "pm"
      rw [mFor_ok (ei.trans eit)]
      exact e4
    have mk : mLockE 6 (mLcG (iItemsM (mVar 6)) (.many [7, 9]) mYes (mTup (mStar (mVar 7) (mCons (mCall m_value_over (mCons (mVar 2) (mCons (mVar 9) mNil))) mNil)))) [some (.tup [.stp (C.map D.str), .tup rs]), some (.str x), some (.str f), some y, some (.stp (names.map D.str)), some me, some (.ref h.length), y7, y8, none] h4 = .ok (.ref h4.length) (h6.set h.length (.dit (gD gs))) := by
      show (match (h4[h.length]?).bind fun o => (lkO o).map fun o' => (o, o') with | some (o, o') => unlR h.length o' o (mLcG (iItemsM (mVar 6)) (.many [7, 9]) mYes (mTup (mStar (mVar 7) (mCons (mCall m_value_over (mCons (mVar 2) (mCons (mVar 9) mNil))) mNil))) [some (.tup [.stp (C.map D.str), .tup rs]), some (.str x), some (.str f), some y, some (.stp (names.map D.str)), some me, some (.ref h.length), y7, y8, none] (h4.set h.length o')) | none => R.bad) = _
      rw [i4.dic]
      show unlR h.length (.rdt (gD gs)) (.dit (gD gs)) (mLcG _ _ _ _ _ (h4.set h.length (.rdt (gD gs)))) = _
      have ii : iItemsM (mVar 6) [some (.tup [.stp (C.map D.str), .tup rs]), some (.str x), some (.str f), some y, some (.stp (names.map D.str)), some me, some (.ref h.length), y7, y8, none] (h4.set h.length (.rdt (gD gs))) = .ok ((gD gs).map fun kv => .tup [.tup (kv.1.map kD), kv.2], fun hh => hh[h.length]? = some (.rdt (gD gs))) (h4.set h.length (.rdt (gD gs))) := by
        show itItems (.ref h.length) _ = _
        unfold itItems
        dsimp only
        rw [d5]
      rw [mLcG_ok ii]
      have e6' : cLoop (fun hh => hh[h.length]? = some (Ob.rdt (gD gs))) (.many [7, 9]) mYes (mTup (mStar (mVar 7) (mCons (mCall m_value_over (mCons (mVar 2) (mCons (mVar 9) mNil))) mNil))) (putL (h4.set h.length (.rdt (gD gs))).length) (h4.set h.length (.rdt (gD gs))).length ((gD gs).map fun kv => .tup [.tup (kv.1.map kD), kv.2]) (wipeD [some (.tup [.stp (C.map D.str), .tup rs]), some (.str x), some (.str f), some y, some (.stp (names.map D.str)), some me, some (.ref h.length), y7, y8, none] (Tg.many [7, 9]).slots) (h4.set h.length (.rdt (gD gs)) ++ [.lst []]) = .ok (.ref h4.length) h6 := by
        rw [l5]; exact e6
      rw [e6']
      unfold unlR
      dsimp only
      rw [if_pos d6]
    have es : names.map D.str ++ [D.str x] = (names ++ [x]).map D.str := by simp
    have ll : (List.map D.str (names ++ [x])).length ≤ 1000000 := by simp; omega
    unfold m_group b_group
    clear e2 e3 e4 e6 eit hw g2 g3 g2' gF0 eL hL d5 d6 a6' g7 l5
    have em' := em none none none none none h
    have md : ∀ s h, mDictT s h = .ok (.ref h.length) (h ++ [.dit []]) := fun _ _ => rfl
    clear em
    walk_at "pm"
  · have y1 : X0 h h4 := ⟨by omega, fun k o e => i4.old _ _ (by have := get_lt e; omega) (x3.at' _ _ (x2.at' _ _ (x1.at' _ _ e)))⟩
    have y2 : X0 h h6 := (y1.set (Nat.le_refl _) _).trans a6.1
    exact (y2.set (Nat.le_refl _) _).trans x8
end K21
end
section
set_option Elab.async false
set_option linter.all false
set_option maxRecDepth 100000
set_option maxHeartbeats 1000000
namespace K21
open PySem L2 PM
local macro_rules | `(tactic| walk_at "pm") => `(tactic| simp only [bind_ok, toS_ok, seq_nx, seq_rt, seq_bk, seq_ct, seq_exc, bind_exc, toS_exc, mSeq_ap, mNext_ap, mSet_ap, kSet_ap, mAsg_ap, kAsg_ap, ofS_some, gN_ap, gTup_ap, gCons_ap, gNil_ap, mDrop_ap, kDrop_ap, mRet_ap, mRetN_ap, mIfS_ap, kIf_t, kIf_f, mBreak_ap, mCont_ap, mBad_ap, mAug_ap, kAug_ap, mVar_ap, mC_ap, m1_ap, k1_ap, m2_ap, k2_ap, k2'_ap, ofO_some, mNil_ap, mCons_ap, kC_ap, kC'_ap, mCall_ap, mB_ap, kB_ap, mMeth_ap, kM_ap, kM'_ap, mTest_ap, kBl_ap, mNot_ap, kNot_ap, mAnd_ap, kAnd_t, kAnd_f, mOr_ap, kOr_t, kOr_f, mIfE_ap, kIfE_t, kIfE_f, mAndV_ap, kAndV_t, kAndV_f, mOrV_ap, kOrV_t, kOrV_f, mNotV_ap, kNotV_ap, mTup_ap, kTup_ap, mLst_ap, kLst_ap, mNoPart_ap, mPart_ap, kInt_ap, mSl_ap, kSl1_ap, kSl2_ap, kSl3_ap, mChain_ap, kCh0_ap, kCh1_ap, kCh2_t, kCh2_f, kCh3_ap, mPutD_ap, kP1_ap, kP2_ap, kP3_ap, runDef_ap, fin_nx, fin_rt, fin_exc, mYes_ap, add_ii, iadd_ii, add_ss, sub_ii, mul_ii, mul_si, mod_ii, fdiv_ii, pow_ii, neg_i, ord_ii, ord_ss, eq_ii, ne_ii, eq_ss, ne_ss, is_non, isn_non, int_i, len_s, len_t, min_ii, sl_s, in_c, nin_c, split_s, str1_ss, find4_s, ty_str, ord_c, iR1_ap, itR1_i, iS_ap, itS_s, iT_ap, itT_t, iE_ap, oD_some, len_r, oLen_l, oLen_r, oKey_s, it_ref, itH_r, itH_t, itH_s, oIH_d, oIH_l, oIH_r, tupF_r, oTupF_l, mTupF_ap, kTupF_ap, seq_t, seq_s, seq_r, oSeq_l, mStar_ap, kSt_ap, kSt1_s, kSt2_ap, lst_d, oLst_s, mTupRev_ap, kRev_t, kRev_s, len_st, min_l, oTy_t, oTy_d, isi_i, isi_s, mIdx_ap, kIx_s, kIxs_ap, kIx1_s, iA_ap, itA_t, itA_s, oItem_d, oItem_l, oItem_r, it_tup, oC_some, it_str, keyD_s, keyD_i, app_r, oApp_l, ext_r, oExt_l, ty_ref, oTy_l, isi_ref, oIsi_l, put_ref, oPut_d, oPutK_s, oBls_s, all_r, oAll_l, tup_r, oTup_l, itE_r, oEnum_l, List.map_cons, List.map_nil, List.length_cons, List.length_nil, List.replicate, List.cons_append, List.nil_append, List.set_cons_zero, List.set_cons_succ, List.getElem?_cons_zero, List.getElem?_cons_succ, Nat.reduceSub, Nat.reduceAdd, Nat.reduceLeDiff, Nat.reduceLT,  cond_true, cond_false, if_true, if_false, ite_true, ite_false, Bool.false_eq_true, reduceIte, Nat.zero_add, Option.bind_some, ne_eq, Int.reduceEq, not_false_eq_true, not_true_eq_false, decide_true, decide_false, Bool.not_true, Bool.not_false, *])

/-! keys compared -/
def pyK : Key → PyData
  | .inl i => .int i
  | .inr x => .str x
def okK : Key → Bool
  | .inl _ => true
  | .inr x => PyData.strOk x
theorem py_keys (n : Nat) (h : HP) : ∀ ks : List Key, (ks.map kD).mapM (toPy (n + 1) h) = some (ks.map pyK)
  | [] => rfl
  | k :: ks => by
    rw [List.map_cons, List.mapM_cons, py_keys n h ks]
    cases k <;> rfl
theorem py_tup (n : Nat) (h : HP) (ks : List Key) : toPy (n + 2) h (.tup (ks.map kD)) = some (.tuple (ks.map pyK)) := by
  show ((ks.map kD).mapM (toPy (n + 1) h)).map PyData.tuple = _
  rw [py_keys]; rfl
theorem lay_keys : ∀ {ks : List Key}, ks.all okK = true → PyData.canLayAll0 (ks.map pyK) = true
  | [], _ => by simp [PyData.canLayAll0]
  | k :: ks, h => by
    rw [List.all_cons, Bool.and_eq_true] at h
    have := lay_keys h.2
    cases k with
    | inl i => simp [PyData.canLayAll0, pyK, PyData.canLay0, this]
    | inr x => simp [PyData.canLayAll0, pyK, PyData.canLay0, this]; exact h.1
theorem dep_keys : ∀ ks : List Key, PyData.depthAll (ks.map pyK) ≤ 1
  | [] => by simp [PyData.depthAll]
  | k :: ks => by
    have q := dep_keys ks
    cases k <;> (simp only [List.map_cons, pyK, PyData.depthAll, PyData.depth]; omega)
theorem shaped_keys {ks : List Key} (h : ks.all okK = true) : SeqAt.shaped (.tuple (ks.map pyK)) = true := by
  have cl : PyData.canLay0 (.tuple (ks.map pyK)) = true := by simp only [PyData.canLay0, lay_keys h]
  unfold SeqAt.shaped
  rw [cl, Bool.true_and]
  refine decide_eq_true ?_
  have := dep_keys ks
  simp only [PyData.depth]; omega
theorem eqv_key (a b : Key) : PyData.eqv (pyK a) (pyK b) = decide (a = b) := by
  cases a <;> cases b <;> simp [pyK, PyData.eqv] <;> (rw [Bool.eq_iff_iff, beq_iff_eq, decide_eq_true_eq])
theorem eqv_keys : ∀ a b : List Key, PyData.eqvAll (a.map pyK) (b.map pyK) = decide (a = b)
  | [], [] => by simp [PyData.eqvAll]
  | [], b :: bs => by simp [PyData.eqvAll]
  | a :: as, [] => by simp [PyData.eqvAll]
  | a :: as, b :: bs => by
    rw [List.map_cons, List.map_cons, PyData.eqvAll, eqv_key, eqv_keys as bs]
    by_cases h1 : a = b <;> by_cases h2 : as = bs <;> simp [h1, h2]
theorem eqv_tup (a b : List Key) : PyData.eqv (.tuple (a.map pyK)) (.tuple (b.map pyK)) = decide (a = b) := by
  rw [PyData.eqv, eqv_keys]
theorem eq_keys {a b : List Key} (ha : a.all okK = true) (hb : b.all okK = true) (h : HP) : eqG false (.tup (a.map kD)) (.tup (b.map kD)) h = some (.bl (decide (a = b)), h) := by
  have eb : eqB (.tup (a.map kD)) (.tup (b.map kD)) h = some (decide (a = b)) := by
    show (match toPy 60 h (.tup (a.map kD)), toPy 60 h (.tup (b.map kD)) with
      | some p, some q => if SeqAt.shaped p = true ∧ SeqAt.shaped q = true then some (PyData.eqv p q) else none
      | _, _ => none) = _
    rw [py_tup, py_tup]
    dsimp only
    rw [if_pos ⟨shaped_keys ha, shaped_keys hb⟩, eqv_tup]
  unfold eqG
  rw [eb]; rfl
def kT (k : List Key) : D := .tup (k.map kD)
theorem py_kT (n : Nat) (h : HP) : ∀ ks : List (List Key), (ks.map kT).mapM (toPy (n + 2) h) = some (ks.map fun k => .tuple (k.map pyK))
  | [] => rfl
  | k :: ks => by
    rw [List.map_cons, List.mapM_cons, py_kT n h ks]
    unfold kT
    rw [py_tup]; rfl
theorem lay_kT : ∀ {ks : List (List Key)}, (∀ k ∈ ks, k.all okK = true) → PyData.canLayAll0 (ks.map fun k => PyData.tuple (k.map pyK)) = true
  | [], _ => by simp [PyData.canLayAll0]
  | k :: ks, h => by
    have := lay_kT fun k hk => h k (List.mem_cons_of_mem _ hk)
    have h1 := lay_keys (h k List.mem_cons_self)
    simp only [List.map_cons, PyData.canLayAll0, PyData.canLay0, h1, Bool.true_and]
    exact this
theorem dep_kT : ∀ ks : List (List Key), PyData.depthAll (ks.map fun k => PyData.tuple (k.map pyK)) ≤ 3
  | [] => by simp [PyData.depthAll]
  | k :: ks => by
    have q := dep_kT ks
    have q1 := dep_keys k
    simp only [List.map_cons, PyData.depthAll, PyData.depth]; omega
theorem in_keys {k : List Key} {ks : List (List Key)} {h : HP} {r : Nat} {b : Bool} (hb : b = true ↔ k ∈ ks) (e : h[r]? = some (.lst (ks.map kT))) (hk : k.all okK = true) (hks : ∀ k ∈ ks, k.all okK = true) :
    inH true (.tup (k.map kD)) (.ref r) h = some (.bl (!b), h) := by
  have sl : SeqAt.shaped (.list (ks.map fun k => PyData.tuple (k.map pyK))) = true := by
    have cl : PyData.canLay0 (.list (ks.map fun k => PyData.tuple (k.map pyK))) = true := by simp only [PyData.canLay0, lay_kT hks]
    unfold SeqAt.shaped
    rw [cl, Bool.true_and]
    refine decide_eq_true ?_
    have := dep_kT ks
    simp only [PyData.depth]; omega
  have ip : toPy 61 h (.ref r) = some (.list (ks.map fun k => PyData.tuple (k.map pyK))) := by
    show (match h[r]? with | some (.lst xs) => (xs.mapM (toPy 60 h)).map PyData.list | some (.rdl xs) => (xs.mapM (toPy 60 h)).map PyData.list | _ => none) = _
    rw [e]
    dsimp only
    rw [py_kT]; rfl
  have ie : inC (.tup (k.map kD)) (.ref r) h = some b := by
    have lk : lookD h[r]? (.tup (k.map kD)) = none := by rw [e]; rfl
    have ib : inB (.tup (k.map kD)) (.ref r) h = none := by
      unfold inB
      dsimp only
      rw [e]; rfl
    unfold inC
    dsimp only
    rw [lk]
    dsimp only
    rw [ib]
    dsimp only
    rw [py_tup, ip]
    dsimp only
    rw [if_pos ⟨shaped_keys hk, sl⟩]
    congr 1
    rw [List.any_map]
    rw [Bool.eq_iff_iff, List.any_eq_true, hb]
    constructor
    · rintro ⟨z, hz, e⟩
      rw [Function.comp_apply, eqv_tup, decide_eq_true_eq] at e
      exact e ▸ hz
    · intro hz
      refine ⟨k, hz, ?_⟩
      rw [Function.comp_apply, eqv_tup, decide_eq_true_eq]
  unfold inH
  rw [ie]; rfl
theorem prj_ok {C names : List Str} {ks : List Key} (h : ks.all okK = true) : (prj C names ks).all okK = true := by
  rw [List.all_eq_true] at h ⊢
  intro k hk
  obtain ⟨nm, _, rfl⟩ := List.mem_map.mp hk
  rw [List.getD_eq_getElem?_getD]
  by_cases hx : ix C nm < ks.length
  · rw [List.getElem?_eq_getElem hx]; exact h _ (List.getElem_mem hx)
  · rw [List.getElem?_eq_none (by omega)]; rfl
/-! least, most, sum in one loop -/
theorem w_step {f r : D} {a b t v : Int} {h : HP} : L_u_law_worked_1 [some f, some r, some (.int a), some (.int b), some (.int t), some (.int v)] h = .nx [some f, some r, some (.int (if v < a then v else a)), some (.int (if b < v then v else b)), some (.int (t + v)), some (.int v)] h := by
  unfold L_u_law_worked_1
  by_cases c1 : v < a <;> by_cases c2 : b < v <;> walk_at "pm"
theorem w_loop {f r : D} {G : HP → Prop} {h : HP} (hG : G h) : ∀ {vs : List Int} {a b t : Int} {x5 : Option D}, ∃ y5, mLoop G (gN 5) L_u_law_worked_1 (vs.map D.int) [some f, some r, some (.int a), some (.int b), some (.int t), x5] h = .nx [some f, some r, some (.int (least a vs)), some (.int (most b vs)), some (.int (t + vs.sum)), y5] h
  | [], a, b, t, x5 => ⟨x5, by rw [List.map_nil, mLoop_nil hG, List.sum_nil, Int.add_zero]; rfl⟩
  | v :: vs, a, b, t, x5 => by
    obtain ⟨y5, e⟩ := w_loop hG (vs := vs) (a := if v < a then v else a) (b := if b < v then v else b) (t := t + v) (x5 := some (.int v))
    refine ⟨y5, ?_⟩
    rw [List.map_cons, mLoop_nx hG rfl (.inl w_step), e, List.sum_cons, Int.add_assoc]
    rfl
def isF (f : Str) : Prop := f = "count" ∨ f = "sum" ∨ f = "least" ∨ f = "most"
theorem worked_ok {h : HP} {r : Nat} {f : Str} {v : Int} {vs : List Int} (hf : isF f) (e : h[r]? = some (.lst ((v :: vs).map D.int))) :
    ∃ h', m_u_law_worked [.str f, .ref r] h = .ok (.int (agg f (v :: vs))) h' ∧ X0 h h' := by
  have ha : atI ((v :: vs).map D.int) 0 = some (.int v) := by
    have q : ((v :: vs).map D.int)[0]? = some (.int v) := rfl
    exact atI_nat q
  obtain ⟨y5, el⟩ := w_loop (f := .str f) (r := .ref r) (G := fun h => h[r]? = some (.lst ((v :: vs).map D.int))) (h := h) e (vs := v :: vs) (a := v) (b := v) (t := 0) (x5 := none)
  have e1 : least v (v :: vs) = least v vs := by rw [least, if_neg (Int.lt_irrefl v)]
  have e2 : most v (v :: vs) = most v vs := by rw [most, if_neg (Int.lt_irrefl v)]
  rw [e1, e2, Int.zero_add] at el
  have ei : iA (mVar 1) [some (.str f), some (.ref r), some (.int v), some (.int v), some (.int 0), none] h = .ok ((v :: vs).map D.int, fun h => h[r]? = some (.lst ((v :: vs).map D.int))) h := by
    show itA (.ref r) h = _
    unfold itA
    dsimp only
    rw [e]
  have mf : mFor (iA (mVar 1)) (gN 5) L_u_law_worked_1 [some (.str f), some (.ref r), some (.int v), some (.int v), some (.int 0), none] h = .nx [some (.str f), some (.ref r), some (.int (least v vs)), some (.int (most v vs)), some (.int (v :: vs).sum), y5] h := by
    rw [mFor_ok ei]; exact el
  have e' : (h ++ [Ob.dic []])[r]? = some (.lst ((v :: vs).map D.int)) := by rw [List.getElem?_append_left (get_lt e)]; exact e
  have ln : (((v :: vs).map D.int).length : Int) = ((v :: vs).length : Int) := by simp
  generalize hl : (v :: vs) = l at *
  have mp : mPairs [(mC (.str "count"), mB lenG (mCons (mVar 1) mNil)), (mC (.str "sum"), mVar 4), (mC (.str "least"), mVar 2), (mC (.str "most"), mVar 3)] [some (.str f), some (.ref r), some (.int (least v vs)), some (.int (most v vs)), some (.int l.sum), y5] (h ++ [.dic []]) = .ok [(.str "count", .int l.length), (.str "sum", .int l.sum), (.str "least", .int (least v vs)), (.str "most", .int (most v vs))] (h ++ [.dic []]) := by
    clear mf ei el e
    simp only [mPairs]
    walk_at "pm"
  have md : mDisp [(mC (.str "count"), mB lenG (mCons (mVar 1) mNil)), (mC (.str "sum"), mVar 4), (mC (.str "least"), mVar 2), (mC (.str "most"), mVar 3)] [some (.str f), some (.ref r), some (.int (least v vs)), some (.int (most v vs)), some (.int l.sum), y5] h = .ok (.ref h.length) (h ++ [.dic [(.inr "count", .int l.length), (.inr "sum", .int l.sum), (.inr "least", .int (least v vs)), (.inr "most", .int (most v vs))]]) := by
    unfold mDisp
    rw [mp]
    rw [bind_ok]
    have kk : keysD [(D.str "count", D.int l.length), (.str "sum", .int l.sum), (.str "least", .int (least v vs)), (.str "most", .int (most v vs))] = some [(.inr "count", .int l.length), (.inr "sum", .int l.sum), (.inr "least", .int (least v vs)), (.inr "most", .int (most v vs))] := rfl
    have mg : mergeD [] [((.inr "count" : Key), D.int l.length), (.inr "sum", .int l.sum), (.inr "least", .int (least v vs)), (.inr "most", .int (most v vs))] = [(.inr "count", .int l.length), (.inr "sum", .int l.sum), (.inr "least", .int (least v vs)), (.inr "most", .int (most v vs))] := rfl
    rw [kk]
    dsimp only
    rw [last_get, mg]
    show R.ok (D.ref h.length) ((h ++ [Ob.dic []]).set h.length _) = _
    rw [List.set_append_right _ _ (Nat.le_refl _)]
    simp
  have g5 : (h ++ [Ob.dic [((.inr "count" : Key), D.int l.length), (.inr "sum", .int l.sum), (.inr "least", .int (least v vs)), (.inr "most", .int (most v vs))]])[h.length]? = some (.dic [(.inr "count", .int l.length), (.inr "sum", .int l.sum), (.inr "least", .int (least v vs)), (.inr "most", .int (most v vs))]) := last_get
  have gk : getK [((.inr "count" : Key), D.int l.length), (.inr "sum", .int l.sum), (.inr "least", .int (least v vs)), (.inr "most", .int (most v vs))] (.inr f) = some (.int (agg f l)) := by
    rcases hf with rfl | rfl | rfl | rfl
    · have ag : agg "count" l = l.length := by unfold agg; rw [if_pos rfl]
      rw [ag]; rfl
    · have ag : agg "sum" l = l.sum := by unfold agg; rw [if_neg (by decide), if_pos rfl]
      rw [ag]; rfl
    · have ag : agg "least" l = least v vs := by rw [← hl]; unfold agg; rw [if_neg (by decide), if_neg (by decide), if_pos rfl]; rfl
      rw [ag]; rfl
    · have ag : agg "most" l = most v vs := by rw [← hl]; unfold agg; rw [if_neg (by decide), if_neg (by decide), if_neg (by decide)]; rfl
      rw [ag]; rfl
  refine ⟨_, ?_, X0.app h [.dic [(.inr "count", .int l.length), (.inr "sum", .int l.sum), (.inr "least", .int (least v vs)), (.inr "most", .int (most v vs))]]⟩
  unfold m_u_law_worked b_u_law_worked
  clear mp el ei hl hf e'
  walk_at "pm"
end K21
end
section
set_option Elab.async false
set_option linter.all false
set_option maxRecDepth 100000
set_option maxHeartbeats 1000000
namespace K21
open PySem L2 PM
local macro_rules | `(tactic| walk_at "pm") => `(tactic| simp only [bind_ok, toS_ok, seq_nx, seq_rt, seq_bk, seq_ct, seq_exc, bind_exc, toS_exc, mSeq_ap, mNext_ap, mSet_ap, kSet_ap, mAsg_ap, kAsg_ap, ofS_some, gN_ap, gTup_ap, gCons_ap, gNil_ap, mDrop_ap, kDrop_ap, mRet_ap, mRetN_ap, mIfS_ap, kIf_t, kIf_f, mBreak_ap, mCont_ap, mBad_ap, mAug_ap, kAug_ap, mVar_ap, mC_ap, m1_ap, k1_ap, m2_ap, k2_ap, k2'_ap, ofO_some, mNil_ap, mCons_ap, kC_ap, kC'_ap, mCall_ap, mB_ap, kB_ap, mMeth_ap, kM_ap, kM'_ap, mTest_ap, kBl_ap, mNot_ap, kNot_ap, mAnd_ap, kAnd_t, kAnd_f, mOr_ap, kOr_t, kOr_f, mIfE_ap, kIfE_t, kIfE_f, mAndV_ap, kAndV_t, kAndV_f, mOrV_ap, kOrV_t, kOrV_f, mNotV_ap, kNotV_ap, mTup_ap, kTup_ap, mLst_ap, kLst_ap, mNoPart_ap, mPart_ap, kInt_ap, mSl_ap, kSl1_ap, kSl2_ap, kSl3_ap, mChain_ap, kCh0_ap, kCh1_ap, kCh2_t, kCh2_f, kCh3_ap, mPutD_ap, kP1_ap, kP2_ap, kP3_ap, runDef_ap, fin_nx, fin_rt, fin_exc, mYes_ap, add_ii, iadd_ii, add_ss, sub_ii, mul_ii, mul_si, mod_ii, fdiv_ii, pow_ii, neg_i, ord_ii, ord_ss, eq_ii, ne_ii, eq_ss, ne_ss, is_non, isn_non, int_i, len_s, len_t, min_ii, sl_s, in_c, nin_c, split_s, str1_ss, find4_s, ty_str, ord_c, iR1_ap, itR1_i, iS_ap, itS_s, iT_ap, itT_t, iE_ap, oD_some, len_r, oLen_l, oLen_r, oKey_s, it_ref, itH_r, itH_t, itH_s, oIH_d, oIH_l, oIH_r, tupF_r, oTupF_l, mTupF_ap, kTupF_ap, seq_t, seq_s, seq_r, oSeq_l, mStar_ap, kSt_ap, kSt1_s, kSt2_ap, lst_d, oLst_s, mTupRev_ap, kRev_t, kRev_s, len_st, min_l, oTy_t, oTy_d, isi_i, isi_s, mIdx_ap, kIx_s, kIxs_ap, kIx1_s, iA_ap, itA_t, itA_s, oItem_d, oItem_l, oItem_r, it_tup, oC_some, it_str, keyD_s, keyD_i, app_r, oApp_l, ext_r, oExt_l, ty_ref, oTy_l, isi_ref, oIsi_l, put_ref, oPut_d, oPutK_s, oBls_s, all_r, oAll_l, tup_r, oTup_l, itE_r, oEnum_l, List.map_cons, List.map_nil, List.length_cons, List.length_nil, List.replicate, List.cons_append, List.nil_append, List.set_cons_zero, List.set_cons_succ, List.getElem?_cons_zero, List.getElem?_cons_succ, Nat.reduceSub, Nat.reduceAdd, Nat.reduceLeDiff, Nat.reduceLT,  cond_true, cond_false, if_true, if_false, ite_true, ite_false, Bool.false_eq_true, reduceIte, Nat.zero_add, Option.bind_some, ne_eq, Int.reduceEq, not_false_eq_true, not_true_eq_false, decide_true, decide_false, Bool.not_true, Bool.not_false, *])

theorem X0.fr {i : Nat} {a b : HP} (x : X0 a b) : Fr i a b := ⟨x.len, fun k o _ e => x.at' k o e⟩
theorem X0.of_fr {n : Nat} {a b c : HP} (x : X0 a b) (y : Fr n b c) (hn : a.length ≤ n) : X0 a c := ⟨Nat.le_trans x.len y.len, fun k o e => y.at' k o (by have := get_lt e; omega) (x.at' k o e)⟩
/-- the key of a row -/
noncomputable def keyE : ME := mB toTupG (mCons (mLcG (iA (mVar 5)) (.one 9) mYes (m2 itemH (mVar 7) (mIdx (mVar 0) (mCons (mVar 9) mNil)))) mNil)
theorem key_l {C names : List Str} {d : D} {h : HP} (r : IsRow C d) (hn : ∀ nm ∈ names, nm ∈ C) (hl : names.length ≤ 1000) {x1 x2 x3 x4 x6 x8 x9 x10 x11 x12 : Option D} :
    ∃ h', mLcG (iA (mVar 5)) (.one 9) mYes (m2 itemH (mVar 7) (mIdx (mVar 0) (mCons (mVar 9) mNil))) [some (.stp (C.map D.str)), x1, x2, x3, x4, some (.stp (names.map D.str)), x6, some d, x8, x9, x10, x11, x12] h = .ok (.ref h.length) h' ∧ X0 h h' ∧ h'[h.length]? = some (.lst ((prj C names (ksOf d)).map kD)) := by
  obtain ⟨h3, e3, a3⟩ := lc_all (it := iA (mVar 5)) (tg := .one 9) (el := m2 itemH (mVar 7) (mIdx (mVar 0) (mCons (mVar 9) mNil))) (s := [some (.stp (C.map D.str)), x1, x2, x3, x4, some (.stp (names.map D.str)), x6, some d, x8, x9, x10, x11, x12]) (f := fun j => kD ((ksOf d).getD (ix C (strOf j)) (.inl 0))) (It.stp (h := h) (xs := names.map D.str)) (fun G e => by rw [← e]; rfl)
    (fun j hj h4 x4' => by
      obtain ⟨nm, hm, rfl⟩ := List.mem_map.mp hj
      refine ⟨_, h4, rfl, ?_, X0.refl _⟩
      have q := row_at r (hn nm hm) h4
      have q1 := (ix_ok (hn nm hm)).1
      have e : strOf (.str nm) = nm := rfl
      rw [e]
      show m2 itemH (mVar 7) (mIdx (mVar 0) (mCons (mVar 9) mNil)) [some (.stp (C.map D.str)), x1, x2, x3, x4, some (.stp (names.map D.str)), x6, some d, x8, some (.str nm), x10, x11, x12] h4 = _
      generalize kD ((ksOf d).getD (ix C nm) (.inl 0)) = z at q ⊢
      generalize ix C nm = j at q q1
      walk_at "pm") (by simp; omega)
  have ee : (names.map D.str).map (fun j => kD ((ksOf d).getD (ix C (strOf j)) (.inl 0))) = (prj C names (ksOf d)).map kD := by
    unfold prj
    rw [List.map_map, List.map_map]
    exact List.map_congr_left fun nm _ => rfl
  rw [ee] at a3
  exact ⟨h3, e3, a3.1, a3.2⟩
theorem key_ok {C names : List Str} {d : D} {h : HP} (r : IsRow C d) (hn : ∀ nm ∈ names, nm ∈ C) (hl : names.length ≤ 1000) {x1 x2 x3 x4 x6 x8 x9 x10 x11 x12 : Option D} :
    ∃ h', keyE [some (.stp (C.map D.str)), x1, x2, x3, x4, some (.stp (names.map D.str)), x6, some d, x8, x9, x10, x11, x12] h = .ok (prD C names d) h' ∧ X0 h h' := by
  obtain ⟨h', e, x, g⟩ := key_l (h := h) r hn hl (x1 := x1) (x2 := x2) (x3 := x3) (x4 := x4) (x6 := x6) (x8 := x8) (x9 := x9) (x10 := x10) (x11 := x11) (x12 := x12)
  refine ⟨h', ?_, x⟩
  unfold keyE prD
  clear x
  walk_at "pm"
/-! the keys -/
theorem due1 {C names : List Str} {d : D} {h : HP} {K : Nat} {ks : List (List Key)} (r : IsRow C d) (hn : ∀ nm ∈ names, nm ∈ C) (hl : names.length ≤ 1000) (ok : (ksOf d).all okK = true) (eK : h[K]? = some (.lst (ks.map kT))) (oks : ∀ k ∈ ks, k.all okK = true) (lk : ks.length ≤ 1000)
    {x1 x2 x3 x4 x8 x9 x10 x11 x12 : Option D} :
    ∃ h' y8, L_u_law_due_1 [some (.stp (C.map D.str)), x1, x2, x3, x4, some (.stp (names.map D.str)), some (.ref K), some d, x8, x9, x10, x11, x12] h = .nx [some (.stp (C.map D.str)), x1, x2, x3, x4, some (.stp (names.map D.str)), some (.ref K), some d, y8, x9, x10, x11, x12] h' ∧
      Fr K h h' ∧ h'[K]? = some (.lst ((fst1 ks (prj C names (ksOf d))).map kT)) := by
  obtain ⟨h1, e1, a1, g1⟩ := key_l (x1 := x1) (x2 := x2) (x3 := x3) (x4 := x4) (x6 := some (.ref K)) (x8 := x8) (x9 := x9) (x10 := x10) (x11 := x11) (x12 := x12) (h := h) r hn hl
  have eK1 := a1.at' _ _ eK
  have i1 := fun (b : Bool) (hb : b = true ↔ prj C names (ksOf d) ∈ ks) => in_keys hb eK1 (prj_ok (C := C) (names := names) ok) oks
  generalize prj C names (ksOf d) = k at g1 i1
  have l1 : (ks.map kT).length < 1000000 := by rw [List.length_map]; omega
  have i2 : ∀ b : Bool, (b = true ↔ k ∈ ks) → inH true (kT k) (.ref K) h1 = some (.bl (!b), h1) := i1
  clear i1
  by_cases c : k ∈ ks
  · have fe : fst1 ks k = ks := by unfold fst1; rw [if_pos c]
    have i3 := i2 true (by simp [c])
    have ek : D.tup (k.map kD) = kT k := rfl
    clear i2
    refine ⟨h1, some (kT k), ?_, a1.fr, by rw [fe]; exact eK1⟩
    unfold L_u_law_due_1
    clear a1 eK1 eK oks l1 fe c r hn ok
    walk_at "pm"
  · have fe : fst1 ks k = ks ++ [k] := by unfold fst1; rw [if_neg c]
    have i3 := i2 false (by simp [c])
    have ek : D.tup (k.map kD) = kT k := rfl
    clear i2
    refine ⟨h1.set K (.lst (ks.map kT ++ [kT k])), some (kT k), ?_, a1.fr.trans (Fr.set _ _ _), by rw [fe, List.map_append, List.getElem?_set_self (get_lt eK1)]; rfl⟩
    unfold L_u_law_due_1
    clear a1 eK oks fe c r hn ok
    walk_at "pm"
theorem due1_loop {C names : List Str} {kd : List Bool} {rs : List D} {R K : Nat} (hRK : R ≠ K) (r : Rows C kd rs) (hn : ∀ nm ∈ names, nm ∈ C) (hl : names.length ≤ 1000) (ok : ∀ d ∈ rs, (ksOf d).all okK = true) (lr : rs.length ≤ 1000) {x1 x2 x3 x4 x9 x10 x11 x12 : Option D} :
    ∀ {ds P : List D} {h : HP} {x7 x8 : Option D}, (∀ d ∈ ds, d ∈ rs) → (∀ d ∈ P, d ∈ rs) → P.length + ds.length ≤ 1000 → h[R]? = some (.lst rs) → h[K]? = some (.lst ((firsts (P.map fun d => prj C names (ksOf d))).map kT)) →
    ∃ h' y7 y8, mLoop (fun h => h[R]? = some (.lst rs)) (gN 7) L_u_law_due_1 ds [some (.stp (C.map D.str)), x1, x2, x3, x4, some (.stp (names.map D.str)), some (.ref K), x7, x8, x9, x10, x11, x12] h = .nx [some (.stp (C.map D.str)), x1, x2, x3, x4, some (.stp (names.map D.str)), some (.ref K), y7, y8, x9, x10, x11, x12] h' ∧
      Fr K h h' ∧ h'[K]? = some (.lst ((firsts ((P ++ ds).map fun d => prj C names (ksOf d))).map kT))
  | [], P, h, x7, x8, _, _, _, eR, eK => ⟨h, x7, x8, mLoop_nil eR, Fr.refl _ _, by rw [List.append_nil]; exact eK⟩
  | d :: ds, P, h, x7, x8, hd, hP, hlen, eR, eK => by
    rw [List.length_cons] at hlen
    have hd0 := hd d List.mem_cons_self
    have fm : ∀ k ∈ firsts (P.map fun d => prj C names (ksOf d)), k.all okK = true := fun k hk => by
      obtain ⟨p, hp, rfl⟩ := List.mem_map.mp (firsts_mem.mp hk)
      exact prj_ok (ok p (hP p hp))
    have fl : (firsts (P.map fun d => prj C names (ksOf d))).length ≤ 1000 := by
      have := fold_len (ks := P.map fun d => prj C names (ksOf d)) (acc := [])
      unfold firsts
      simp at this
      omega
    obtain ⟨h1, y8, e1, f1, g1⟩ := due1 (r d hd0).1 hn hl (ok d hd0) eK fm fl (x1 := x1) (x2 := x2) (x3 := x3) (x4 := x4) (x8 := x8) (x9 := x9) (x10 := x10) (x11 := x11) (x12 := x12)
    have eR1 := f1.at' _ _ hRK eR
    obtain ⟨h2, z7, z8, e2, f2, g2⟩ := due1_loop hRK r hn hl ok lr (ds := ds) (P := P ++ [d]) (h := h1) (x7 := some d) (x8 := y8) (x1 := x1) (x2 := x2) (x3 := x3) (x4 := x4) (x9 := x9) (x10 := x10) (x11 := x11) (x12 := x12) (fun d h => hd d (List.mem_cons_of_mem _ h)) (fun p hp => by
      rcases List.mem_append.mp hp with hp | hp
      · exact hP p hp
      · simp at hp; subst hp; exact hd0) (by simp; omega) eR1 (by rw [List.map_append, List.map_cons, List.map_nil, firsts_snoc]; exact g1)
    refine ⟨h2, z7, z8, ?_, f1.trans f2, by rw [List.append_assoc] at g2; exact g2⟩
    rw [mLoop_nx eR rfl (.inl e1)]
    exact e2
/-! the rows of a key -/
theorem mine_ok {C names : List Str} {kd : List Bool} {rs : List D} {R : Nat} {k : List Key} {h : HP} (e : h[R]? = some (.lst rs)) (r : Rows C kd rs) (hn : ∀ nm ∈ names, nm ∈ C) (hl : names.length ≤ 1000) (ok : ∀ d ∈ rs, (ksOf d).all okK = true) (hk : k.all okK = true) (lr : rs.length ≤ 1000) {x2 x3 x4 x6 x7 x9 x10 x11 x12 : Option D} :
    ∃ h', mLcG (iA (mVar 1)) (.one 7) (mTest (m2 (eqG false) (mB toTupG (mCons (mLcG (iA (mVar 5)) (.one 9) mYes (m2 itemH (mVar 7) (mIdx (mVar 0) (mCons (mVar 9) mNil)))) mNil)) (mVar 8))) (mVar 7) [some (.stp (C.map D.str)), some (.ref R), x2, x3, x4, some (.stp (names.map D.str)), x6, x7, some (kT k), x9, x10, x11, x12] h = .ok (.ref h.length) h' ∧ At h (rs.filter fun d => decide (prj C names (ksOf d) = k)) h' := by
  obtain ⟨h1, e1, a1⟩ := lc_some (it := iA (mVar 1)) (tg := .one 7) (c := mTest (m2 (eqG false) keyE (mVar 8))) (el := mVar 7) (s := [some (.stp (C.map D.str)), some (.ref R), x2, x3, x4, some (.stp (names.map D.str)), x6, x7, some (.tup (k.map kD)), x9, x10, x11, x12]) (f := id) (p := fun d => decide (prj C names (ksOf d) = k)) (It.lst e) (fun G e => by rw [← e]; rfl)
    (fun d hd h' x => by
      obtain ⟨h2, e2, x2'⟩ := key_ok (r d hd).1 hn hl (x1 := some (.ref R)) (x2 := x2) (x3 := x3) (x4 := x4) (x6 := x6) (x8 := some (.tup (k.map kD))) (x9 := x9) (x10 := x10) (x11 := x11) (x12 := x12) (h := h')
      have q := eq_keys (prj_ok (C := C) (names := names) (ok d hd)) hk h2
      refine ⟨_, h2, rfl, ?_, x2', fun _ => ⟨h2, rfl, X0.refl _⟩⟩
      show mTest (m2 (eqG false) keyE (mVar 8)) [some (.stp (C.map D.str)), some (.ref R), x2, x3, x4, some (.stp (names.map D.str)), x6, some d, some (.tup (k.map kD)), x9, x10, x11, x12] h' = _
      unfold prD at e2
      generalize hz : D.tup ((prj C names (ksOf d)).map kD) = z at e2 q
      clear hz
      generalize D.tup (k.map kD) = z2 at e2 q ⊢
      walk_at "pm") (by omega)
  rw [List.map_id] at a1
  exact ⟨h1, e1, a1⟩
/-! the row that is due -/
def rowX (k : List Key) (w : Int) : D := if k = [] then .tup [.int w] else .stp (k.map kD ++ [.int w])
theorem rowX_cat {k : List Key} {w : Int} {h : HP} (hl : k.length ≤ 1000) : catF (.tup (k.map kD)) (.tup [.int w]) h = some (rowX k w, h) := by
  unfold rowX
  cases k with
  | nil => rfl
  | cons a k =>
    rw [if_neg (by simp)]
    exact cat_d rfl rfl rfl rfl (by simp) (.inr (by simp)) (by simp at hl ⊢; omega)
theorem rowX_row {k : List Key} {w : Int} : RowD (rowX k w) (k ++ [.inl w]) := by
  unfold rowX
  by_cases h : k = []
  · subst h; rw [if_pos rfl]; exact .inl rfl
  · rw [if_neg h]
    right
    rw [List.map_append]; rfl
theorem rowX_ks {k : List Key} {w : Int} : ksOf (rowX k w) = k ++ [.inl w] := RowD.ks rowX_row
end K21
end
section
set_option Elab.async false
set_option linter.all false
set_option maxRecDepth 100000
set_option maxHeartbeats 1000000
namespace K21
open PySem L2 PM
local macro_rules | `(tactic| walk_at "pm") => `(tactic| simp only [bind_ok, toS_ok, seq_nx, seq_rt, seq_bk, seq_ct, seq_exc, bind_exc, toS_exc, mSeq_ap, mNext_ap, mSet_ap, kSet_ap, mAsg_ap, kAsg_ap, ofS_some, gN_ap, gTup_ap, gCons_ap, gNil_ap, mDrop_ap, kDrop_ap, mRet_ap, mRetN_ap, mIfS_ap, kIf_t, kIf_f, mBreak_ap, mCont_ap, mBad_ap, mAug_ap, kAug_ap, mVar_ap, mC_ap, m1_ap, k1_ap, m2_ap, k2_ap, k2'_ap, ofO_some, mNil_ap, mCons_ap, kC_ap, kC'_ap, mCall_ap, mB_ap, kB_ap, mMeth_ap, kM_ap, kM'_ap, mTest_ap, kBl_ap, mNot_ap, kNot_ap, mAnd_ap, kAnd_t, kAnd_f, mOr_ap, kOr_t, kOr_f, mIfE_ap, kIfE_t, kIfE_f, mAndV_ap, kAndV_t, kAndV_f, mOrV_ap, kOrV_t, kOrV_f, mNotV_ap, kNotV_ap, mTup_ap, kTup_ap, mLst_ap, kLst_ap, mNoPart_ap, mPart_ap, kInt_ap, mSl_ap, kSl1_ap, kSl2_ap, kSl3_ap, mChain_ap, kCh0_ap, kCh1_ap, kCh2_t, kCh2_f, kCh3_ap, mPutD_ap, kP1_ap, kP2_ap, kP3_ap, runDef_ap, fin_nx, fin_rt, fin_exc, mYes_ap, add_ii, iadd_ii, add_ss, sub_ii, mul_ii, mul_si, mod_ii, fdiv_ii, pow_ii, neg_i, ord_ii, ord_ss, eq_ii, ne_ii, eq_ss, ne_ss, is_non, isn_non, int_i, len_s, len_t, min_ii, sl_s, in_c, nin_c, split_s, str1_ss, find4_s, ty_str, ord_c, iR1_ap, itR1_i, iS_ap, itS_s, iT_ap, itT_t, iE_ap, oD_some, len_r, oLen_l, oLen_r, oKey_s, it_ref, itH_r, itH_t, itH_s, oIH_d, oIH_l, oIH_r, tupF_r, oTupF_l, mTupF_ap, kTupF_ap, seq_t, seq_s, seq_r, oSeq_l, mStar_ap, kSt_ap, kSt1_s, kSt2_ap, lst_d, oLst_s, mTupRev_ap, kRev_t, kRev_s, len_st, min_l, oTy_t, oTy_d, isi_i, isi_s, mIdx_ap, kIx_s, kIxs_ap, kIx1_s, iA_ap, itA_t, itA_s, oItem_d, oItem_l, oItem_r, it_tup, oC_some, it_str, keyD_s, keyD_i, app_r, oApp_l, ext_r, oExt_l, ty_ref, oTy_l, isi_ref, oIsi_l, put_ref, oPut_d, oPutK_s, oBls_s, all_r, oAll_l, tup_r, oTup_l, itE_r, oEnum_l, List.map_cons, List.map_nil, List.length_cons, List.length_nil, List.replicate, List.cons_append, List.nil_append, List.set_cons_zero, List.set_cons_succ, List.getElem?_cons_zero, List.getElem?_cons_succ, Nat.reduceSub, Nat.reduceAdd, Nat.reduceLeDiff, Nat.reduceLT,  cond_true, cond_false, if_true, if_false, ite_true, ite_false, Bool.false_eq_true, reduceIte, Nat.zero_add, Option.bind_some, ne_eq, Int.reduceEq, not_false_eq_true, not_true_eq_false, decide_true, decide_false, Bool.not_true, Bool.not_false, *])

/-- what is measured: nothing, or a column of numbers -/
def Meas (C : List Str) (rs : List D) (y : D) (vl : D → Int) : Prop := (y = .non ∧ vl = fun _ => 0) ∨ ∃ v, y = .str v ∧ v ∈ C ∧ ∀ d ∈ rs, (ksOf d).getD (ix C v) (.inl 0) = .inl (vl d)
theorem rep_zero : ∀ n : Nat, (List.replicate n [D.int 0]).flatten = List.replicate n (D.int 0)
  | 0 => rfl
  | n + 1 => by rw [List.replicate_succ, List.flatten_cons, rep_zero n]; rfl
theorem map_zero (xs : List D) : (xs.map fun _ => (0 : Int)).map D.int = List.replicate xs.length (D.int 0) := by
  rw [List.map_map, show (D.int ∘ fun _ : D => (0 : Int)) = fun _ => D.int 0 from rfl, List.map_const']
theorem nums_ok {C names : List Str} {rs mine : List D} {y : D} {vl : D → Int} {M : Nat} {h : HP} (me : Meas C rs y vl) (hm : ∀ d ∈ mine, d ∈ rs) (rr : ∀ d ∈ rs, IsRow C d) (e : h[M]? = some (.lst mine)) (lm : mine.length ≤ 1000) {x1 x2 x3 x5 x6 x7 x8 x9 x10 x12 : Option D} :
    ∃ N h3, X0 h h3 ∧ h3[N]? = some (.lst ((mine.map vl).map D.int)) ∧ ∀ Z : MS, mSeq (mSet 12 (m2 mulL (mLst (mCons (mC (.int 0)) mNil)) (mB lenG (mCons (mVar 11) mNil)))) (mSeq (mIfS (mTest (m2 (isG true) (mVar 4) (mC .non))) (mSet 12 (mLcG (iA (mVar 11)) (.one 7) mYes (m2 itemH (mVar 7) (mIdx (mVar 0) (mCons (mVar 4) mNil))))) mNext) Z)
      [some (.stp (C.map D.str)), x1, x2, x3, some y, x5, x6, x7, x8, x9, x10, some (.ref M), x12] h = Z [some (.stp (C.map D.str)), x1, x2, x3, some y, x5, x6, x7, x8, x9, x10, some (.ref M), some (.ref N)] h3 := by
  have e' : (h ++ [Ob.lst [D.int 0]])[M]? = some (.lst mine) := by rw [List.getElem?_append_left (get_lt e)]; exact e
  have ml : mulL (.ref h.length) (.int (mine.length : Int)) (h ++ [.lst [.int 0]]) = some (.ref (h ++ [Ob.lst [D.int 0]]).length, (h ++ [.lst [.int 0]]) ++ [.lst (List.replicate mine.length (.int 0))]) := by
    unfold mulL
    dsimp only
    rw [last_get]
    dsimp only
    rw [if_pos ⟨by omega, by omega, by simp; omega⟩, Int.toNat_natCast, rep_zero]
  have xx : X0 h ((h ++ [Ob.lst [D.int 0]]) ++ [.lst (List.replicate mine.length (.int 0))]) := (X0.app _ _).trans (X0.app _ _)
  rcases me with ⟨rfl, rfl⟩ | ⟨v, rfl, hv, ev⟩
  · refine ⟨(h ++ [Ob.lst [D.int 0]]).length, (h ++ [Ob.lst [D.int 0]]) ++ [.lst (List.replicate mine.length (.int 0))], xx, by rw [map_zero]; exact last_get, fun Z => ?_⟩
    have n1 : PM.isNon D.non = true := rfl
    walk_at "pm"
  · have n1 : PM.isNon (.str v) = false := rfl
    obtain ⟨h3, e3, a3⟩ := lc_all (it := iA (mVar 11)) (tg := .one 7) (el := m2 itemH (mVar 7) (mIdx (mVar 0) (mCons (mVar 4) mNil))) (s := [some (.stp (C.map D.str)), x1, x2, x3, some (.str v), x5, x6, x7, x8, x9, x10, some (.ref M), some (.ref (h ++ [Ob.lst [D.int 0]]).length)]) (f := fun d => .int (vl d)) (It.lst (xx.at' _ _ e)) (fun G e => by rw [← e]; rfl)
      (fun d hd h4 x4' => by
        refine ⟨_, h4, rfl, ?_, X0.refl _⟩
        have q := row_at (rr d (hm d hd)) hv h4
        rw [ev d (hm d hd)] at q
        have q1 := (ix_ok hv).1
        show m2 itemH (mVar 7) (mIdx (mVar 0) (mCons (mVar 4) mNil)) [some (.stp (C.map D.str)), x1, x2, x3, some (.str v), x5, x6, some d, x8, x9, x10, some (.ref M), some (.ref (h ++ [Ob.lst [D.int 0]]).length)] h4 = .ok (kD (.inl (vl d))) h4
        clear e' ml e
        generalize kD (.inl (vl d)) = z at q ⊢
        generalize ix C v = j at q q1
        walk_at "pm") (by omega)
    refine ⟨_, h3, xx.trans a3.1, by rw [List.map_map]; exact a3.2, fun Z => ?_⟩
    clear a3 xx ev hm rr
    walk_at "pm"
theorem mSet_nx {i : Nat} {a : ME} {s : SD} {h h' : HP} {d : D} (e : a s h = .ok d h') : mSet i a s h = .nx (s.set i (some d)) h' := by rw [mSet_ap, e]; rfl
noncomputable def Wk (C names : List Str) (rs : List D) (f : Str) (vl : D → Int) (k : List Key) : Int := agg f ((rs.filter fun d => decide (prj C names (ksOf d) = k)).map vl)
theorem due2 {C names : List Str} {kd : List Bool} {rs : List D} {f : Str} {y : D} {vl : D → Int} {R Fo : Nat} {k : List Key} {A : List D} {h : HP} (hf : isF f) (me : Meas C rs y vl) (r : Rows C kd rs) (hn : ∀ nm ∈ names, nm ∈ C) (hl : names.length ≤ 900) (ok : ∀ d ∈ rs, (ksOf d).all okK = true) (lr : rs.length ≤ 1000)
    (hk : k ∈ rs.map fun d => prj C names (ksOf d)) (eR : h[R]? = some (.lst rs)) (eF : h[Fo]? = some (.lst A)) (lA : A.length ≤ 1000) {x2 x6 x7 x9 x11 x12 : Option D} :
    ∃ h' y11 y12, L_u_law_due_2 [some (.stp (C.map D.str)), some (.ref R), x2, some (.str f), some y, some (.stp (names.map D.str)), x6, x7, some (kT k), x9, some (.ref Fo), x11, x12] h = .nx [some (.stp (C.map D.str)), some (.ref R), x2, some (.str f), some y, some (.stp (names.map D.str)), x6, x7, some (kT k), x9, some (.ref Fo), y11, y12] h' ∧
      Fr Fo h h' ∧ h'[Fo]? = some (.lst (A ++ [rowX k (Wk C names rs f vl k)])) := by
  obtain ⟨d0, hd0, ek⟩ := List.mem_map.mp hk
  have okk : k.all okK = true := by rw [← ek]; exact prj_ok (ok d0 hd0)
  have lk : k.length ≤ 1000 := by rw [← ek]; unfold prj; simp; omega
  obtain ⟨h1, e1, a1⟩ := mine_ok eR r hn (by omega) ok okk lr (x2 := x2) (x3 := some (.str f)) (x4 := some y) (x6 := x6) (x7 := x7) (x9 := x9) (x10 := some (.ref Fo)) (x11 := x11) (x12 := x12)
  have lm : (rs.filter fun d => decide (prj C names (ksOf d) = k)).length ≤ 1000 := Nat.le_trans (List.length_filter_le _ _) lr
  obtain ⟨N, h3, x3, g3, nz⟩ := nums_ok (names := names) me (fun d hd => (List.mem_filter.mp hd).1) (fun d hd => (r d hd).1) a1.2 lm (x1 := some (.ref R)) (x2 := x2) (x3 := some (.str f)) (x5 := some (.stp (names.map D.str))) (x6 := x6) (x7 := x7) (x8 := some (kT k)) (x9 := x9) (x10 := some (.ref Fo)) (x12 := x12)
  have ne : (rs.filter fun d => decide (prj C names (ksOf d) = k)) ≠ [] := by
    intro e
    have : d0 ∈ rs.filter fun d => decide (prj C names (ksOf d) = k) := List.mem_filter.mpr ⟨hd0, decide_eq_true ek⟩
    rw [e] at this; cases this
  have hW : ∃ h4, m_u_law_worked [.str f, .ref N] h3 = .ok (.int (Wk C names rs f vl k)) h4 ∧ X0 h3 h4 := by
    unfold Wk
    generalize (rs.filter fun d => decide (prj C names (ksOf d) = k)) = m at ne g3
    cases m with
    | nil => exact absurd rfl ne
    | cons d m => exact worked_ok hf g3
  obtain ⟨h4, e4, x4⟩ := hW
  have g3' : h3[Fo]? = some (.lst A) := x3.at' _ _ (a1.1.at' _ _ eF)
  have g4 : h4[Fo]? = some (.lst A) := x4.at' _ _ g3'
  refine ⟨h4.set Fo (.lst (A ++ [rowX k (Wk C names rs f vl k)])), some (.ref h.length), some (.ref N), ?_, (((a1.1.trans x3).trans x4).fr).trans (Fr.set _ _ _), List.getElem?_set_self (get_lt g4)⟩
  have ec := rowX_cat (k := k) (w := Wk C names rs f vl k) (h := h4) lk
  have ec' : catF (kT k) (.tup [.int (Wk C names rs f vl k)]) h4 = some (rowX k (Wk C names rs f vl k), h4) := ec
  generalize Wk C names rs f vl k = w at *
  have lA' : A.length < 1000000 := by omega
  unfold L_u_law_due_2
  rw [mSeq_ap, mSet_nx e1, seq_nx]
  refine (nz _).trans ?_
  clear e1 nz g3 ec ne hk a1 x3 x4 eR eF ok r
  walk_at "pm"
theorem due2_loop {C names : List Str} {kd : List Bool} {rs : List D} {f : Str} {y : D} {vl : D → Int} {R Fo K : Nat} (hf : isF f) (me : Meas C rs y vl) (r : Rows C kd rs) (hn : ∀ nm ∈ names, nm ∈ C) (hl : names.length ≤ 900) (ok : ∀ d ∈ rs, (ksOf d).all okK = true) (lr : rs.length ≤ 1000)
    (hR : R ≠ Fo) (hK : K ≠ Fo) {all : List D} {x2 x6 x7 x9 : Option D} : ∀ {ks P : List (List Key)} {h : HP} {x8 x11 x12 : Option D}, (∀ k ∈ ks, k ∈ rs.map fun d => prj C names (ksOf d)) → P.length + ks.length ≤ 1000 → h[R]? = some (.lst rs) → h[K]? = some (.lst all) → h[Fo]? = some (.lst (P.map fun k => rowX k (Wk C names rs f vl k))) →
    ∃ h' y8 y11 y12, mLoop (fun h => h[K]? = some (.lst all)) (gN 8) L_u_law_due_2 (ks.map kT) [some (.stp (C.map D.str)), some (.ref R), x2, some (.str f), some y, some (.stp (names.map D.str)), x6, x7, x8, x9, some (.ref Fo), x11, x12] h = .nx [some (.stp (C.map D.str)), some (.ref R), x2, some (.str f), some y, some (.stp (names.map D.str)), x6, x7, y8, x9, some (.ref Fo), y11, y12] h' ∧
      Fr Fo h h' ∧ h'[Fo]? = some (.lst ((P ++ ks).map fun k => rowX k (Wk C names rs f vl k)))
  | [], P, h, x8, x11, x12, _, _, eR, eK, eF => ⟨h, x8, x11, x12, mLoop_nil eK, Fr.refl _ _, by rw [List.append_nil]; exact eF⟩
  | k :: ks, P, h, x8, x11, x12, hk, hlen, eR, eK, eF => by
    rw [List.length_cons] at hlen
    obtain ⟨h1, z11, z12, e1, f1, g1⟩ := due2 hf me r hn hl ok lr (hk k List.mem_cons_self) eR eF (by simp; omega) (x2 := x2) (x6 := x6) (x7 := x7) (x9 := x9) (x11 := x11) (x12 := x12)
    obtain ⟨h2, y8, y11, y12, e2, f2, g2⟩ := due2_loop hf me r hn hl ok lr hR hK (all := all) (ks := ks) (P := P ++ [k]) (h := h1) (x8 := some (kT k)) (x11 := z11) (x12 := z12) (x2 := x2) (x6 := x6) (x7 := x7) (x9 := x9) (fun k h => hk k (List.mem_cons_of_mem _ h)) (by simp; omega) (f1.at' _ _ hR eR) (f1.at' _ _ hK eK) (by rw [List.map_append]; exact g1)
    refine ⟨h2, y8, y11, y12, ?_, f1.trans f2, by rw [List.append_assoc] at g2; exact g2⟩
    rw [List.map_cons, mLoop_nx eK rfl (.inl e1)]
    exact e2
theorem due_ok {C names : List Str} {kd : List Bool} {rs : List D} {x f : Str} {y : D} {vl : D → Int} {R : Nat} {h : HP} (hf : isF f) (me : Meas C rs y vl) (r : Rows C kd rs) (hn : ∀ nm ∈ names, nm ∈ C) (hl : names.length ≤ 900) (ok : ∀ d ∈ rs, (ksOf d).all okK = true) (lr : rs.length ≤ 1000) (eR : h[R]? = some (.lst rs)) :
    ∃ L h', m_u_law_due [.stp (C.map D.str), .ref R, .str x, .str f, y, .stp (names.map D.str)] h = .ok (tabD (names ++ [x]) L) h' ∧ X0 h h' ∧ L.map ksOf = (firsts (rs.map fun d => prj C names (ksOf d))).map fun k => k ++ [Sum.inl (Wk C names rs f vl k)] := by
  have hR := get_lt eR
  have eR1 : (h ++ [Ob.lst []])[R]? = some (.lst rs) := (X0.app _ _).at' _ _ eR
  have RK : R ≠ h.length := by omega
  obtain ⟨h1, y7, y8, e1, f1, g1⟩ := due1_loop RK r hn (by omega) ok lr (ds := rs) (P := []) (h := h ++ [Ob.lst []]) (x7 := none) (x8 := none) (x1 := some (.ref R)) (x2 := some (.str x)) (x3 := some (.str f)) (x4 := some y) (x9 := none) (x10 := none) (x11 := none) (x12 := none) (fun _ h => h) (fun _ h => by cases h) (by simpa using lr) eR1 last_get
  rw [List.nil_append] at g1
  have eR2 := f1.at' _ _ RK eR1
  have hb : h.length < h1.length := get_lt g1
  generalize hks : firsts (rs.map fun d => prj C names (ksOf d)) = ks at g1
  have kin : ∀ k ∈ ks, k ∈ rs.map fun d => prj C names (ksOf d) := fun k hk => firsts_mem.mp (by rw [hks]; exact hk)
  have lks : ks.length ≤ 1000 := by
    have := fold_len (ks := rs.map fun d => prj C names (ksOf d)) (acc := [])
    rw [← hks]; unfold firsts
    simp at this; omega
  obtain ⟨h2, y8', y11, y12, e2, f2, g2⟩ := due2_loop (Fo := h1.length) (K := h.length) hf me r hn hl ok lr (by omega) (by omega) (all := ks.map kT) (ks := ks) (P := []) (h := h1 ++ [Ob.lst []]) (x8 := y8) (x11 := none) (x12 := none) (x2 := some (.str x)) (x6 := some (.ref h.length)) (x7 := y7) (x9 := none) kin (by simpa using lks) ((X0.app _ _).at' _ _ eR2) ((X0.app _ _).at' _ _ g1) last_get
  rw [List.nil_append] at g2
  have rL : Rows (names ++ [x]) (kdOf C names kd ++ [true]) (ks.map fun k => rowX k (Wk C names rs f vl k)) := by
    intro d hd
    obtain ⟨k, hk, rfl⟩ := List.mem_map.mp hd
    obtain ⟨d, hd, e⟩ := List.mem_map.mp (kin k hk)
    have q1 : k.length = names.length := by rw [← e]; unfold prj; simp
    have q2 : k.map isL = kdOf C names kd := by rw [← e, prj_kd, (r d hd).2]
    refine ⟨⟨by rw [rowX_ks]; exact rowX_row, by rw [rowX_ks]; simp [q1]⟩, by rw [rowX_ks, List.map_append, q2]; rfl⟩
  obtain ⟨h3, e3, x3⟩ := mt_ok (C := names ++ [x]) (R := .ref h1.length) (h := h2) (It.lst g2) rL (by simp; omega) (by simp; omega)
  refine ⟨_, h3, ?_, ((((X0.app h [Ob.lst []]).of_fr f1 (Nat.le_refl _)).trans (X0.app _ _)).of_fr f2 (by omega)).trans x3, by rw [List.map_map]; exact List.map_congr_left fun k _ => rowX_ks⟩
  have cf : ∀ h, catF (.stp (names.map D.str)) (.stp [.str x]) h = some (.stp ((names ++ [x]).map D.str), h) := fun h => by
    rw [cat_d rfl rfl rfl rfl (by simp) (.inl rfl) (by simp; omega), List.map_append]; rfl
  have it : ∀ {i : Nat} {h : HP} {xs : List D}, h[i]? = some (.lst xs) → itA (.ref i) h = .ok (xs, fun h => h[i]? = some (.lst xs)) h := fun {i h xs} e => by
    unfold itA; dsimp only; rw [e]
  have m1 : mFor (iA (mVar 1)) (gN 7) L_u_law_due_1 [some (.stp (C.map D.str)), some (.ref R), some (.str x), some (.str f), some y, some (.stp (names.map D.str)), some (.ref h.length), none, none, none, none, none, none] (h ++ [Ob.lst []]) = .nx [some (.stp (C.map D.str)), some (.ref R), some (.str x), some (.str f), some y, some (.stp (names.map D.str)), some (.ref h.length), y7, y8, none, none, none, none] h1 := by
    refine (mFor_ok ?_).trans e1
    exact it eR1
  have m2 : mFor (iA (mVar 6)) (gN 8) L_u_law_due_2 [some (.stp (C.map D.str)), some (.ref R), some (.str x), some (.str f), some y, some (.stp (names.map D.str)), some (.ref h.length), y7, y8, none, some (.ref h1.length), none, none] (h1 ++ [Ob.lst []]) = .nx [some (.stp (C.map D.str)), some (.ref R), some (.str x), some (.str f), some y, some (.stp (names.map D.str)), some (.ref h.length), y7, y8', none, some (.ref h1.length), y11, y12] h2 := by
    refine (mFor_ok ?_).trans e2
    exact it ((X0.app _ _).at' _ _ g1)
  unfold m_u_law_due b_u_law_due
  clear e1 e2 g1 g2 it eR eR1 eR2 hks rL r ok me
  walk_at "pm"
end K21
end
section
set_option Elab.async false
set_option linter.all false
set_option maxRecDepth 100000
set_option maxHeartbeats 1000000
namespace K21
open PySem L2 PM
local macro_rules | `(tactic| walk_at "pm") => `(tactic| simp only [bind_ok, toS_ok, seq_nx, seq_rt, seq_bk, seq_ct, seq_exc, bind_exc, toS_exc, mSeq_ap, mNext_ap, mSet_ap, kSet_ap, mAsg_ap, kAsg_ap, ofS_some, gN_ap, gTup_ap, gCons_ap, gNil_ap, mDrop_ap, kDrop_ap, mRet_ap, mRetN_ap, mIfS_ap, kIf_t, kIf_f, mBreak_ap, mCont_ap, mBad_ap, mAug_ap, kAug_ap, mVar_ap, mC_ap, m1_ap, k1_ap, m2_ap, k2_ap, k2'_ap, ofO_some, mNil_ap, mCons_ap, kC_ap, kC'_ap, mCall_ap, mB_ap, kB_ap, mMeth_ap, kM_ap, kM'_ap, mTest_ap, kBl_ap, mNot_ap, kNot_ap, mAnd_ap, kAnd_t, kAnd_f, mOr_ap, kOr_t, kOr_f, mIfE_ap, kIfE_t, kIfE_f, mAndV_ap, kAndV_t, kAndV_f, mOrV_ap, kOrV_t, kOrV_f, mNotV_ap, kNotV_ap, mTup_ap, kTup_ap, mLst_ap, kLst_ap, mNoPart_ap, mPart_ap, kInt_ap, mSl_ap, kSl1_ap, kSl2_ap, kSl3_ap, mChain_ap, kCh0_ap, kCh1_ap, kCh2_t, kCh2_f, kCh3_ap, mPutD_ap, kP1_ap, kP2_ap, kP3_ap, runDef_ap, fin_nx, fin_rt, fin_exc, mYes_ap, add_ii, iadd_ii, add_ss, sub_ii, mul_ii, mul_si, mod_ii, fdiv_ii, pow_ii, neg_i, ord_ii, ord_ss, eq_ii, ne_ii, eq_ss, ne_ss, is_non, isn_non, int_i, len_s, len_t, min_ii, sl_s, in_c, nin_c, split_s, str1_ss, find4_s, ty_str, ord_c, iR1_ap, itR1_i, iS_ap, itS_s, iT_ap, itT_t, iE_ap, oD_some, len_r, oLen_l, oLen_r, oKey_s, it_ref, itH_r, itH_t, itH_s, oIH_d, oIH_l, oIH_r, tupF_r, oTupF_l, mTupF_ap, kTupF_ap, seq_t, seq_s, seq_r, oSeq_l, mStar_ap, kSt_ap, kSt1_s, kSt2_ap, lst_d, oLst_s, mTupRev_ap, kRev_t, kRev_s, len_st, min_l, oTy_t, oTy_d, isi_i, isi_s, mIdx_ap, kIx_s, kIxs_ap, kIx1_s, iA_ap, itA_t, itA_s, oItem_d, oItem_l, oItem_r, it_tup, oC_some, it_str, keyD_s, keyD_i, app_r, oApp_l, ext_r, oExt_l, ty_ref, oTy_l, isi_ref, oIsi_l, put_ref, oPut_d, oPutK_s, oBls_s, all_r, oAll_l, tup_r, oTup_l, itE_r, oEnum_l, List.map_cons, List.map_nil, List.length_cons, List.length_nil, List.replicate, List.cons_append, List.nil_append, List.set_cons_zero, List.set_cons_succ, List.getElem?_cons_zero, List.getElem?_cons_succ, Nat.reduceSub, Nat.reduceAdd, Nat.reduceLeDiff, Nat.reduceLT,  cond_true, cond_false, if_true, if_false, ite_true, ite_false, Bool.false_eq_true, reduceIte, Nat.zero_add, Option.bind_some, ne_eq, Int.reduceEq, not_false_eq_true, not_true_eq_false, decide_true, decide_false, Bool.not_true, Bool.not_false, *])

/-! the draws stand at 2, wherever they are -/
structure Dr (row : List Int) (h : HP) : Prop where
  ex : ∃ n, St h 2 1 row n
theorem Dr.x0 {row : List Int} {h h' : HP} (a : Dr row h) (x : X0 h h') : Dr row h' := by
  obtain ⟨n, s⟩ := a.ex
  exact ⟨n, x.at' _ _ s.d, x.at' _ _ s.r, s.z⟩
theorem Dr.gt {row : List Int} {h : HP} (a : Dr row h) : 2 < h.length := by
  obtain ⟨n, s⟩ := a.ex
  exact get_lt s.d
theorem Dr.set {row : List Int} {h : HP} (a : Dr row h) {n : Nat} (hn : 2 < n) (o : Ob) : Dr row (h.set n o) := by
  obtain ⟨m, s⟩ := a.ex
  exact ⟨m, by rw [List.getElem?_set_ne (by omega)]; exact s.d, by rw [List.getElem?_set_ne (by omega)]; exact s.r, s.z⟩
theorem pickD {row : List Int} {h : HP} (a : Dr row h) {m : Int} (hm : 0 < m) : ∃ j h', m_u_law_pick [.ref 2, .int m] h = .ok (.int j) h' ∧ (0 ≤ j ∧ j < m) ∧ Dr row h' ∧ Fr 2 h h' := by
  obtain ⟨n, s⟩ := a.ex
  obtain ⟨h', e, s', f, _⟩ := pick_ok s (m := m) (by omega)
  exact ⟨_, h', e, fmod_range _ _ hm, ⟨_, s'⟩, f⟩
theorem at_in {xs : List D} {j : Int} (h : 0 ≤ j ∧ j < xs.length) : ∃ x ∈ xs, atI xs j = some x := by
  have hj : j.toNat < xs.length := by omega
  refine ⟨xs[j.toNat], List.getElem_mem hj, ?_⟩
  have q : xs[j.toNat]? = some xs[j.toNat] := List.getElem?_eq_getElem hj
  have := atI_nat q
  rw [Int.toNat_of_nonneg h.1] at this
  exact this
theorem value_ok {row : List Int} {h : HP} (a : Dr row h) (nm : Str) : ∃ k h', m_u_law_value [.ref 2, .str nm] h = .ok (kD k) h' ∧ Dr row h' ∧ Fr 2 h h' ∧ isL k = decide (nm ≠ "n") ∧ okK k = true := by
  by_cases c : nm = "n"
  · subst c
    have x1 : X0 h (h ++ [Ob.lst [.str "", .str "a", .str "b"]]) := X0.app _ _
    obtain ⟨j, h1, e1, hj, a1, f1⟩ := pickD (a.x0 x1) (m := 3) (by omega)
    obtain ⟨x, hx, ex⟩ := at_in (xs := [.str "", .str "a", .str "b"]) (j := j) hj
    have g1 : h1[h.length]? = some (.lst [.str "", .str "a", .str "b"]) := f1.at' _ _ (by have := a.gt; omega) last_get
    have hk : ∃ k : Key, x = kD k ∧ isL k = false ∧ okK k = true := by
      simp only [List.mem_cons, List.not_mem_nil, or_false] at hx
      rcases hx with rfl | rfl | rfl
      · exact ⟨.inr "", rfl, rfl, by decide +kernel⟩
      · exact ⟨.inr "a", rfl, rfl, by decide +kernel⟩
      · exact ⟨.inr "b", rfl, rfl, by decide +kernel⟩
    obtain ⟨k, rfl, k1, k2⟩ := hk
    refine ⟨k, h1, ?_, a1, x1.fr.trans f1, by rw [k1]; decide, k2⟩
    unfold m_u_law_value b_u_law_value
    clear x1 a1 f1 hx k1 k2 a
    generalize kD k = z at ex ⊢
    walk_at "pm"
  · have x1 : X0 h (h ++ [Ob.lst [.int 0, .int 1, .int 2, .int (-1), .int 5]]) := X0.app _ _
    obtain ⟨j, h1, e1, hj, a1, f1⟩ := pickD (a.x0 x1) (m := 5) (by omega)
    obtain ⟨x, hx, ex⟩ := at_in (xs := [.int 0, .int 1, .int 2, .int (-1), .int 5]) (j := j) hj
    have g1 : h1[h.length]? = some (.lst [.int 0, .int 1, .int 2, .int (-1), .int 5]) := f1.at' _ _ (by have := a.gt; omega) last_get
    have hk : ∃ i : Int, x = .int i := by
      simp only [List.mem_cons, List.not_mem_nil, or_false] at hx
      rcases hx with rfl | rfl | rfl | rfl | rfl <;> exact ⟨_, rfl⟩
    obtain ⟨i, rfl⟩ := hk
    refine ⟨.inl i, h1, ?_, a1, x1.fr.trans f1, by simp [isL, c], rfl⟩
    show _ = PM.R.ok (D.int i) h1
    have c' : (nm = "n") = False := eq_false c
    have ng : (-1 : Int) = -(1 : Int) := rfl
    rw [ng] at e1 g1 ex
    unfold m_u_law_value b_u_law_value
    clear x1 a1 f1 hx a c ng
    walk_at "pm"
/-! comprehensions that draw -/
theorem cl_dr {row : List Int} {h0 : HP} {tg : Tg} {el : ME} {s : SD} {P : D → D → Prop} (h2 : 2 < h0.length) : ∀ {ds acc : List D} {h : HP},
    (∀ d ∈ ds, ∀ h, Dr row h → ∃ s1 y h2, tg.put d s = some s1 ∧ el s1 h = .ok y h2 ∧ Dr row h2 ∧ Fr 2 h h2 ∧ P d y) → Fr 2 h0 h → Dr row h → h[h0.length]? = some (.lst acc) → acc.length + ds.length ≤ 1000 →
    ∃ ys h', cLoop (fun _ => True) tg mYes el (putL h0.length) h0.length ds s h = .ok (.ref h0.length) h' ∧ Fr 2 h0 h' ∧ Dr row h' ∧ h'[h0.length]? = some (.lst (acc ++ ys)) ∧ Paired P ds ys
  | [], acc, h, _, f, a, e, _ => ⟨[], h, by unfold cLoop; rw [if_pos trivial], f, a, by rw [List.append_nil]; exact e, .nil⟩
  | d :: ds, acc, h, st, f, a, e, hl => by
    rw [List.length_cons] at hl
    obtain ⟨s1, y, hh, e1, e2, a2, f2, p⟩ := st d List.mem_cons_self h a
    have g2 := f2.at' _ _ (by omega) e
    obtain ⟨ys, h', e3, f3, a3, g3, ps⟩ := cl_dr h2 (ds := ds) (acc := acc ++ [y]) (h := hh.set h0.length (.lst (acc ++ [y]))) (fun d hd => st d (List.mem_cons_of_mem _ hd)) (by
      refine ⟨by rw [List.length_set]; exact Nat.le_trans f.len f2.len, fun k o hk ek => ?_⟩
      rw [List.getElem?_set_ne (by have := get_lt ek; omega)]
      exact f2.at' _ _ hk (f.at' _ _ hk ek)) (a2.set h2 _) (List.getElem?_set_self (get_lt g2)) (by simp; omega)
    refine ⟨y :: ys, h', ?_, f3, a3, by rw [List.append_assoc] at g3; exact g3, .cons p ps⟩
    unfold cLoop
    rw [if_pos trivial, e1]
    dsimp only
    rw [mYes_ap]
    dsimp only
    rw [e2]
    dsimp only
    have e4 : putL h0.length y hh = some (hh.set h0.length (.lst (acc ++ [y]))) := by
      unfold putL; rw [g2]; dsimp only; rw [if_pos (by omega)]
    rw [e4]
    exact e3
theorem cl_drc {row : List Int} {h0 : HP} {tg : Tg} {c : MT} {el : ME} {s : SD} (h2 : 2 < h0.length) : ∀ {ds acc : List D} {h : HP},
    (∀ d ∈ ds, ∀ h, Dr row h → ∃ s1 b h2, tg.put d s = some s1 ∧ c s1 h = .ok b h2 ∧ Dr row h2 ∧ Fr 2 h h2 ∧ el s1 h2 = .ok d h2) → Fr 2 h0 h → Dr row h → h[h0.length]? = some (.lst acc) → acc.length + ds.length ≤ 1000 →
    ∃ ys h', cLoop (fun _ => True) tg c el (putL h0.length) h0.length ds s h = .ok (.ref h0.length) h' ∧ Fr 2 h0 h' ∧ Dr row h' ∧ h'[h0.length]? = some (.lst (acc ++ ys)) ∧ (∀ y ∈ ys, y ∈ ds) ∧ ys.length ≤ ds.length
  | [], acc, h, _, f, a, e, _ => ⟨[], h, by unfold cLoop; rw [if_pos trivial], f, a, by rw [List.append_nil]; exact e, fun _ h => h, Nat.le_refl _⟩
  | d :: ds, acc, h, st, f, a, e, hl => by
    rw [List.length_cons] at hl
    obtain ⟨s1, b, hh, e1, e2, a2, f2, e5⟩ := st d List.mem_cons_self h a
    have g2 := f2.at' _ _ (by omega) e
    have f02 : Fr 2 h0 hh := f.trans f2
    cases b with
    | false =>
      obtain ⟨ys, h', e3, f3, a3, g3, ps, pl⟩ := cl_drc h2 (ds := ds) (acc := acc) (h := hh) (fun d hd => st d (List.mem_cons_of_mem _ hd)) f02 a2 g2 (by omega)
      refine ⟨ys, h', ?_, f3, a3, g3, fun y hy => List.mem_cons_of_mem _ (ps y hy), by rw [List.length_cons]; omega⟩
      unfold cLoop
      rw [if_pos trivial, e1]
      dsimp only
      rw [e2]
      exact e3
    | true =>
      obtain ⟨ys, h', e3, f3, a3, g3, ps, pl⟩ := cl_drc h2 (ds := ds) (acc := acc ++ [d]) (h := hh.set h0.length (.lst (acc ++ [d]))) (fun d hd => st d (List.mem_cons_of_mem _ hd)) (by
        refine ⟨by rw [List.length_set]; exact f02.len, fun k o hk ek => ?_⟩
        rw [List.getElem?_set_ne (by have := get_lt ek; omega)]
        exact f02.at' _ _ hk ek) (a2.set h2 _) (List.getElem?_set_self (get_lt g2)) (by simp; omega)
      refine ⟨d :: ys, h', ?_, f3, a3, by rw [List.append_assoc] at g3; exact g3, fun y hy => ?_, by simp only [List.length_cons]; omega⟩
      · unfold cLoop
        rw [if_pos trivial, e1]
        dsimp only
        rw [e2]
        dsimp only
        rw [e5]
        dsimp only
        have e4 : putL h0.length d hh = some (hh.set h0.length (.lst (acc ++ [d]))) := by
          unfold putL; rw [g2]; dsimp only; rw [if_pos (by omega)]
        rw [e4]
        exact e3
      · rcases List.mem_cons.mp hy with rfl | hy
        · exact List.mem_cons_self
        · exact List.mem_cons_of_mem _ (ps y hy)
/-! the rows -/
def kdC (C : List Str) : List Bool := C.map fun (c : Str) => decide (c ≠ "n")
theorem row_paired : ∀ {C : List Str} {ys : List D}, Paired (fun d y => ∃ k : Key, y = kD k ∧ isL k = decide (strOf d ≠ "n") ∧ okK k = true) (C.map D.str) ys → ∃ ks : List Key, ys = ks.map kD ∧ ks.map isL = kdC C ∧ ks.all okK = true ∧ ks.length = C.length
  | [], ys, p => by cases p; exact ⟨[], rfl, rfl, rfl, rfl⟩
  | c :: C, ys, p => by
    rw [List.map_cons] at p
    cases p with
    | cons q t =>
      obtain ⟨k, rfl, k1, k2⟩ := q
      obtain ⟨ks, rfl, h1, h2, h3⟩ := row_paired t
      refine ⟨k :: ks, rfl, ?_, by rw [List.all_cons, k2, h2]; rfl, by rw [List.length_cons, List.length_cons, h3]⟩
      rw [List.map_cons, h1, k1]; rfl
theorem law2 {row : List Int} {C : List Str} {Ro : Nat} {rs : List D} {h : HP} {d : D} (hC : C.length ≤ 1000) (a : Dr row h) (hR : 2 < Ro) (e : h[Ro]? = some (.lst rs)) (lr : rs.length ≤ 1000) {x0 x2 x6 x7 x8 x9 x10 x11 x12 : Option D} :
    ∃ (ks : List Key) (h' : HP), L_law_2 [x0, some (.ref 2), x2, some (.stp (C.map D.str)), some (.ref Ro), some d, x6, x7, x8, x9, x10, x11, x12] h = .nx [x0, some (.ref 2), x2, some (.stp (C.map D.str)), some (.ref Ro), some d, x6, x7, x8, x9, x10, x11, x12] h' ∧
      Dr row h' ∧ h'[Ro]? = some (.lst (rs ++ [.tup (ks.map kD)])) ∧ ks.map isL = kdC C ∧ ks.all okK = true ∧ ks.length = C.length := by
  have q := mLcG_ok (it := iA (mVar 3)) (tg := .one 6) (cc := mYes) (el := mCall m_u_law_value (mCons (mVar 1) (mCons (mVar 6) mNil))) (s := [x0, some (.ref 2), x2, some (.stp (C.map D.str)), some (.ref Ro), some d, x6, x7, x8, x9, x10, x11, x12]) (h := h) (xs := C.map D.str) (G := fun _ => True) (h' := h) rfl
  obtain ⟨ys, h1, e1, f1, a1, g1, ps⟩ := cl_dr (row := row) (h0 := h) (tg := .one 6) (el := mCall m_u_law_value (mCons (mVar 1) (mCons (mVar 6) mNil))) (s := [x0, some (.ref 2), x2, some (.stp (C.map D.str)), some (.ref Ro), some d, none, x7, x8, x9, x10, x11, x12]) (P := fun d y => ∃ k : Key, y = kD k ∧ isL k = decide (strOf d ≠ "n") ∧ okK k = true) a.gt (ds := C.map D.str) (acc := []) (h := h ++ [.lst []]) (fun d hd h a => by
    obtain ⟨c, hc, rfl⟩ := List.mem_map.mp hd
    obtain ⟨k, h', e, a', f, k1, k2⟩ := value_ok a c
    exact ⟨_, _, h', rfl, e, a', f, k, rfl, k1, k2⟩) (Fr.app _ _ _) (a.x0 (X0.app _ _)) last_get (by simpa using hC)
  obtain ⟨ks, rfl, k1, k2, k3⟩ := row_paired ps
  rw [List.nil_append] at g1
  have e3 := q.trans e1
  have g3 : h1[Ro]? = some (.lst rs) := f1.at' _ _ (by omega) e
  refine ⟨ks, h1.set Ro (.lst (rs ++ [.tup (ks.map kD)])), ?_, a1.set hR _, List.getElem?_set_self (get_lt g3), k1, k2, k3⟩
  have lr' : rs.length < 1000000 := by omega
  unfold L_law_2
  clear q e1 ps f1 k1 k2 k3 a a1
  generalize ks.map kD = z at g1 ⊢
  walk_at "pm"
end K21
end
section
set_option Elab.async false
set_option linter.all false
set_option maxRecDepth 100000
set_option maxHeartbeats 1000000
namespace K21
open PySem L2 PM
local macro_rules | `(tactic| walk_at "pm") => `(tactic| simp only [bind_ok, toS_ok, seq_nx, seq_rt, seq_bk, seq_ct, seq_exc, bind_exc, toS_exc, mSeq_ap, mNext_ap, mSet_ap, kSet_ap, mAsg_ap, kAsg_ap, ofS_some, gN_ap, gTup_ap, gCons_ap, gNil_ap, mDrop_ap, kDrop_ap, mRet_ap, mRetN_ap, mIfS_ap, kIf_t, kIf_f, mBreak_ap, mCont_ap, mBad_ap, mAug_ap, kAug_ap, mVar_ap, mC_ap, m1_ap, k1_ap, m2_ap, k2_ap, k2'_ap, ofO_some, mNil_ap, mCons_ap, kC_ap, kC'_ap, mCall_ap, mB_ap, kB_ap, mMeth_ap, kM_ap, kM'_ap, mTest_ap, kBl_ap, mNot_ap, kNot_ap, mAnd_ap, kAnd_t, kAnd_f, mOr_ap, kOr_t, kOr_f, mIfE_ap, kIfE_t, kIfE_f, mAndV_ap, kAndV_t, kAndV_f, mOrV_ap, kOrV_t, kOrV_f, mNotV_ap, kNotV_ap, mTup_ap, kTup_ap, mLst_ap, kLst_ap, mNoPart_ap, mPart_ap, kInt_ap, mSl_ap, kSl1_ap, kSl2_ap, kSl3_ap, mChain_ap, kCh0_ap, kCh1_ap, kCh2_t, kCh2_f, kCh3_ap, mPutD_ap, kP1_ap, kP2_ap, kP3_ap, runDef_ap, fin_nx, fin_rt, fin_exc, mYes_ap, add_ii, iadd_ii, add_ss, sub_ii, mul_ii, mul_si, mod_ii, fdiv_ii, pow_ii, neg_i, ord_ii, ord_ss, eq_ii, ne_ii, eq_ss, ne_ss, is_non, isn_non, int_i, len_s, len_t, min_ii, sl_s, in_c, nin_c, split_s, str1_ss, find4_s, ty_str, ord_c, iR1_ap, itR1_i, iS_ap, itS_s, iT_ap, itT_t, iE_ap, oD_some, len_r, oLen_l, oLen_r, oKey_s, it_ref, itH_r, itH_t, itH_s, oIH_d, oIH_l, oIH_r, tupF_r, oTupF_l, mTupF_ap, kTupF_ap, seq_t, seq_s, seq_r, oSeq_l, mStar_ap, kSt_ap, kSt1_s, kSt2_ap, lst_d, oLst_s, mTupRev_ap, kRev_t, kRev_s, len_st, min_l, oTy_t, oTy_d, isi_i, isi_s, mIdx_ap, kIx_s, kIxs_ap, kIx1_s, iA_ap, itA_t, itA_s, oItem_d, oItem_l, oItem_r, it_tup, oC_some, it_str, keyD_s, keyD_i, app_r, oApp_l, ext_r, oExt_l, ty_ref, oTy_l, isi_ref, oIsi_l, put_ref, oPut_d, oPutK_s, oBls_s, all_r, oAll_l, tup_r, oTup_l, itE_r, oEnum_l, List.map_cons, List.map_nil, List.length_cons, List.length_nil, List.replicate, List.cons_append, List.nil_append, List.set_cons_zero, List.set_cons_succ, List.getElem?_cons_zero, List.getElem?_cons_succ, Nat.reduceSub, Nat.reduceAdd, Nat.reduceLeDiff, Nat.reduceLT,  cond_true, cond_false, if_true, if_false, ite_true, ite_false, Bool.false_eq_true, reduceIte, Nat.zero_add, Option.bind_some, ne_eq, Int.reduceEq, not_false_eq_true, not_true_eq_false, decide_true, decide_false, Bool.not_true, Bool.not_false, *])

structure Cok (C : List Str) : Prop where
  kept : keptS C = C
  ok : ∀ c ∈ C, PyData.strOk c = true
  len : C.length ≤ 3
  y : ("y" : Str) ∈ C
  num : ∀ v ∈ C, v ≠ "n" → (kdC C).getD (ix C v) true = true
  kd : kdOf C C (kdC C) = kdC C
theorem kept_of {C : List Str} (h : ((C.map D.str).zip (C.map PyData.str)).Pairwise fun a b => PySem.W.dataLe false (fun p : D × PyData => p.2) a b = true) : keptS C = C := by
  unfold keptS srt
  rw [List.mergeSort_of_pairwise h, List.zip_map', List.map_map, List.map_map]
  exact List.map_id _
theorem cok3 : Cok ["n", "x", "y"] where
  kept := kept_of (by
    simp only [List.map_cons, List.map_nil, List.zip_cons_cons, List.zip_nil_right, List.pairwise_cons, List.mem_cons, List.not_mem_nil, or_false]
    refine ⟨fun p hp => ?_, fun p hp => ?_, fun p hp => hp.elim, .nil⟩
    · rcases hp with rfl | rfl <;> decide +kernel
    · subst hp; decide +kernel)
  ok := by intro c hc; simp only [List.mem_cons, List.not_mem_nil, or_false] at hc; rcases hc with rfl | rfl | rfl <;> decide +kernel
  len := by simp
  y := by simp
  num := by intro v hv nv; simp only [List.mem_cons, List.not_mem_nil, or_false] at hv; rcases hv with rfl | rfl | rfl <;> first | exact absurd rfl nv | decide +kernel
  kd := by decide +kernel
theorem cok2 : Cok ["x", "y"] where
  kept := kept_of (by
    simp only [List.map_cons, List.map_nil, List.zip_cons_cons, List.zip_nil_right, List.pairwise_cons, List.mem_cons, List.not_mem_nil, or_false]
    refine ⟨fun p hp => ?_, fun p hp => hp.elim, .nil⟩
    subst hp; decide +kernel)
  ok := by intro c hc; simp only [List.mem_cons, List.not_mem_nil, or_false] at hc; rcases hc with rfl | rfl <;> decide +kernel
  len := by simp
  y := by simp
  num := by intro v hv nv; simp only [List.mem_cons, List.not_mem_nil, or_false] at hv; rcases hv with rfl | rfl <;> decide +kernel
  kd := by decide +kernel
theorem cok1 : Cok ["y"] where
  kept := kept_of (by
    simp only [List.map_cons, List.map_nil, List.zip_cons_cons, List.zip_nil_right, List.pairwise_cons, List.mem_cons, List.not_mem_nil, or_false]
    exact ⟨fun p hp => hp.elim, .nil⟩)
  ok := by intro c hc; simp only [List.mem_cons, List.not_mem_nil, or_false] at hc; subst hc; decide +kernel
  len := by simp
  y := by simp
  num := by intro v hv nv; simp only [List.mem_cons, List.not_mem_nil, or_false] at hv; subst hv; decide +kernel
  kd := by decide +kernel
/-! tables are equal -/
theorem py_strs2 (n : Nat) (h : HP) : ∀ C : List Str, (C.map D.str).mapM (toPy (n + 1) h) = some (C.map PyData.str)
  | [] => rfl
  | c :: C => by rw [List.map_cons, List.mapM_cons, py_strs2 n h C]; rfl
theorem lay_strs : ∀ {C : List Str}, (∀ c ∈ C, PyData.strOk c = true) → PyData.canLayAll0 (C.map PyData.str) = true
  | [], _ => by simp [PyData.canLayAll0]
  | c :: C, h => by
    simp only [List.map_cons, PyData.canLayAll0, PyData.canLay0, h c List.mem_cons_self, Bool.true_and]
    exact lay_strs fun c hc => h c (List.mem_cons_of_mem _ hc)
theorem dep_strs : ∀ C : List Str, PyData.depthAll (C.map PyData.str) ≤ 1
  | [] => by simp [PyData.depthAll]
  | c :: C => by
    have := dep_strs C
    simp only [List.map_cons, PyData.depthAll, PyData.depth]; omega
theorem rowsD_kT {C : List Str} {xs : List D} : rowsD C xs = ((rowsD C xs).map ksOf).map kT := by
  rw [List.map_map]
  conv => lhs; rw [← List.map_id (rowsD C xs)]
  refine List.map_congr_left fun d hd => ?_
  obtain ⟨x, _, rfl⟩ := rowsD_mem hd
  show prD C (keptS C) x = kT (ksOf (prD C (keptS C) x))
  rw [prD_ks]; rfl
theorem ne_tab {C : List Str} {xs : List D} (hC : ∀ c ∈ C, PyData.strOk c = true) (hx : ∀ d ∈ xs, (ksOf d).all okK = true) (h : HP) : eqG true (tabD C xs) (tabD C xs) h = some (.bl false, h) := by
  have hr : ∀ k ∈ (rowsD C xs).map ksOf, k.all okK = true := fun k hk => by
    obtain ⟨d, hd, rfl⟩ := List.mem_map.mp hk
    obtain ⟨x, hx2, rfl⟩ := rowsD_mem hd
    rw [prD_ks]
    exact prj_ok (hx x hx2)
  generalize hg : (rowsD C xs).map ksOf = ks at hr
  have e1 : toPy 60 h (tabD C xs) = some (.tuple [.tuple ((keptS C).map PyData.str), .tuple (ks.map fun k => .tuple (k.map pyK))]) := by
    unfold tabD
    rw [rowsD_kT, hg]
    show ([D.stp ((keptS C).map D.str), .tup (ks.map kT)].mapM (toPy 59 h)).map PyData.tuple = _
    have a1 : toPy 59 h (.stp ((keptS C).map D.str)) = some (.tuple ((keptS C).map PyData.str)) := by
      show (((keptS C).map D.str).mapM (toPy 58 h)).map PyData.tuple = _
      rw [py_strs2]; rfl
    have a2 : toPy 59 h (.tup (ks.map kT)) = some (.tuple (ks.map fun k => .tuple (k.map pyK))) := by
      show ((ks.map kT).mapM (toPy 58 h)).map PyData.tuple = _
      rw [py_kT]; rfl
    rw [List.mapM_cons, a1, List.mapM_cons, a2]
    rfl
  have cl : PyData.canLay0 (.tuple [.tuple ((keptS C).map PyData.str), .tuple (ks.map fun k => .tuple (k.map pyK))]) = true := by
    have b1 := lay_strs (C := keptS C) fun c hc => hC c (kept_mem.mp hc)
    have b2 := lay_kT hr
    simp only [PyData.canLay0, PyData.canLayAll0, b1, b2, Bool.and_true]
  have sh : SeqAt.shaped (.tuple [.tuple ((keptS C).map PyData.str), .tuple (ks.map fun k => .tuple (k.map pyK))]) = true := by
    unfold SeqAt.shaped
    rw [cl, Bool.true_and]
    refine decide_eq_true ?_
    have b1 := dep_strs (keptS C)
    have b2 := dep_kT ks
    simp only [PyData.depth, PyData.depthAll]; omega
  have eb : eqB (tabD C xs) (tabD C xs) h = some true := by
    have e2 : eqB (tabD C xs) (tabD C xs) h = (match toPy 60 h (tabD C xs), toPy 60 h (tabD C xs) with
      | some p, some q => if SeqAt.shaped p = true ∧ SeqAt.shaped q = true then some (PyData.eqv p q) else none
      | _, _ => none) := rfl
    rw [e2, e1]
    dsimp only
    rw [if_pos ⟨sh, sh⟩, SeqAt.eqv_refl _ cl]
  unfold eqG
  rw [eb]; rfl
/-! a function of a group -/
theorem vo_ok {C names : List Str} {rs : List D} {f : Str} {y : D} {vl : D → Int} {k : List Key} (hf : isF f) (me : Meas C rs y vl) (hc : f = "count" ↔ y = .non) (hk : k ∈ rs.map fun d => prj C names (ksOf d)) (lr : rs.length ≤ 1000) {ms : List Str} (hm : y = .non ∨ ∃ v, y = .str v ∧ ms = [v])
    {h : HP} {n : Nat} (e : h[n]? = some (.lst ((rs.filter fun d => decide (prj C names (ksOf d) = k)).map (prD C ms)))) : ∃ h', m_value_over [.str f, .ref n] h = .ok (.int (Wk C names rs f vl k)) h' ∧ X0 h h' := by
  obtain ⟨d0, hd0, ek⟩ := List.mem_map.mp hk
  have m0 : d0 ∈ rs.filter fun d => decide (prj C names (ksOf d) = k) := List.mem_filter.mpr ⟨hd0, decide_eq_true ek⟩
  have ms0 : ∀ d ∈ rs.filter fun d => decide (prj C names (ksOf d) = k), d ∈ rs := fun d hd => (List.mem_filter.mp hd).1
  have ml : (rs.filter fun d => decide (prj C names (ksOf d) = k)).length ≤ 1000 := Nat.le_trans (List.length_filter_le _ _) lr
  unfold Wk
  generalize (rs.filter fun d => decide (prj C names (ksOf d) = k)) = m at *
  by_cases c : f = "count"
  · subst c
    refine ⟨h, ?_, X0.refl _⟩
    rw [vo_count e]
    congr 2
    unfold agg
    rw [if_pos rfl, List.length_map, List.length_map]
  · have hf' : f = "sum" ∨ f = "least" ∨ f = "most" := by
      rcases hf with h | h
      · exact absurd h c
      · exact h
    rcases me with ⟨rfl, _⟩ | ⟨v, rfl, hv, ev⟩
    · exact absurd (hc.mpr rfl) c
    · have hms : ms = [v] := by
        rcases hm with h | ⟨v', h, h2⟩
        · cases h
        · cases h; exact h2
      subst hms
      have ee : m.map (prD C [v]) = (m.map vl).map fun i => .tup [.int i] := by
        rw [List.map_map]
        refine List.map_congr_left fun d hd => ?_
        show D.tup ((prj C [v] (ksOf d)).map kD) = .tup [.int (vl d)]
        unfold prj
        rw [List.map_cons, List.map_nil, ev d (ms0 d hd)]
        rfl
      rw [ee] at e
      cases m with
      | nil => cases m0
      | cons d m => exact vo_num hf' e (by simp at ml ⊢; omega)
theorem fn_ok {C names : List Str} {kd : List Bool} {rs : List D} {x f : Str} {y : D} {vl : D → Int} (hf : isF f) (me : Meas C rs y vl) (hc : f = "count" ↔ y = .non) (r : Rows C kd rs) (hn : ∀ nm ∈ names, nm ∈ C) (hl : names.length ≤ 900) (ok : ∀ d ∈ rs, (ksOf d).all okK = true) (lr : rs.length ≤ 1000)
    (okx : PyData.strOk x = true) (okC : ∀ c ∈ C, PyData.strOk c = true) {R : Nat} {h : HP} (eR : h[R]? = some (.lst rs)) :
    ∃ T h1, m_u_law_due [.stp (C.map D.str), .ref R, .str x, .str f, y, .stp (names.map D.str)] h = .ok T h1 ∧ X0 h h1 ∧ (∀ h1, ∃ h2, m_group [.tup [.stp (C.map D.str), .tup rs], .str x, .str f, y, .stp (names.map D.str)] h1 = .ok T h2 ∧ X0 h1 h2) ∧ ∀ h, eqG true T T h = some (.bl false, h) := by
  obtain ⟨L, h1, e1, x1, k1⟩ := due_ok (x := x) hf me r hn hl ok lr eR
  obtain ⟨ms, hm, hm2, hm3⟩ : ∃ ms : List Str, (∀ nm ∈ ms, nm ∈ C) ∧ ((y = .non ∧ ms = names) ∨ ∃ v, y = .str v ∧ ms = [v]) ∧ (y = .non ∨ ∃ v, y = .str v ∧ ms = [v]) := by
    rcases me with ⟨rfl, _⟩ | ⟨v, rfl, hv, _⟩
    · exact ⟨names, hn, .inl ⟨rfl, rfl⟩, .inl rfl⟩
    · exact ⟨[v], fun nm h => by simp at h; subst h; exact hv, .inr ⟨v, rfl, rfl⟩, .inr ⟨v, rfl, rfl⟩⟩
  refine ⟨_, h1, e1, x1, fun h1 => (by
    obtain ⟨L2, h2, e2, x2, k2⟩ := group_ok (C := C) (names := names) (ms := ms) (x := x) (f := f) (y := y) (h := h1) (W := Wk C names rs f vl) r hn hm hm2 (fun k hk h n e => vo_ok hf me hc hk lr hm3 e) hl lr
    have tt : tabD (names ++ [x]) L2 = tabD (names ++ [x]) L := tabD_congr (k2.trans k1.symm)
    exact ⟨h2, by rw [e2, tt], x2⟩), fun h => ne_tab (fun c hc => ?_) (fun d hd => ?_) h⟩
  · rcases List.mem_append.mp hc with hc | hc
    · exact okC c (hn c hc)
    · simp at hc; subst hc; exact okx
  · have : ksOf d ∈ L.map ksOf := List.mem_map.mpr ⟨d, hd, rfl⟩
    rw [k1] at this
    obtain ⟨k, hk, e⟩ := List.mem_map.mp this
    obtain ⟨d2, hd2, e2⟩ := List.mem_map.mp (firsts_mem.mp hk)
    rw [← e, List.all_append, ← e2, prj_ok (ok d2 hd2)]
    rfl
end K21
end
section
set_option Elab.async false
set_option linter.all false
set_option maxRecDepth 100000
set_option maxHeartbeats 1000000
namespace K21
open PySem L2 PM
local macro_rules | `(tactic| walk_at "pm") => `(tactic| simp only [bind_ok, toS_ok, seq_nx, seq_rt, seq_bk, seq_ct, seq_exc, bind_exc, toS_exc, mSeq_ap, mNext_ap, mSet_ap, kSet_ap, mAsg_ap, kAsg_ap, ofS_some, gN_ap, gTup_ap, gCons_ap, gNil_ap, mDrop_ap, kDrop_ap, mRet_ap, mRetN_ap, mIfS_ap, kIf_t, kIf_f, mBreak_ap, mCont_ap, mBad_ap, mAug_ap, kAug_ap, mVar_ap, mC_ap, m1_ap, k1_ap, m2_ap, k2_ap, k2'_ap, ofO_some, mNil_ap, mCons_ap, kC_ap, kC'_ap, mCall_ap, mB_ap, kB_ap, mMeth_ap, kM_ap, kM'_ap, mTest_ap, kBl_ap, mNot_ap, kNot_ap, mAnd_ap, kAnd_t, kAnd_f, mOr_ap, kOr_t, kOr_f, mIfE_ap, kIfE_t, kIfE_f, mAndV_ap, kAndV_t, kAndV_f, mOrV_ap, kOrV_t, kOrV_f, mNotV_ap, kNotV_ap, mTup_ap, kTup_ap, mLst_ap, kLst_ap, mNoPart_ap, mPart_ap, kInt_ap, mSl_ap, kSl1_ap, kSl2_ap, kSl3_ap, mChain_ap, kCh0_ap, kCh1_ap, kCh2_t, kCh2_f, kCh3_ap, mPutD_ap, kP1_ap, kP2_ap, kP3_ap, runDef_ap, fin_nx, fin_rt, fin_exc, mYes_ap, add_ii, iadd_ii, add_ss, sub_ii, mul_ii, mul_si, mod_ii, fdiv_ii, pow_ii, neg_i, ord_ii, ord_ss, eq_ii, ne_ii, eq_ss, ne_ss, is_non, isn_non, int_i, len_s, len_t, min_ii, sl_s, in_c, nin_c, split_s, str1_ss, find4_s, ty_str, ord_c, iR1_ap, itR1_i, iS_ap, itS_s, iT_ap, itT_t, iE_ap, oD_some, len_r, oLen_l, oLen_r, oKey_s, it_ref, itH_r, itH_t, itH_s, oIH_d, oIH_l, oIH_r, tupF_r, oTupF_l, mTupF_ap, kTupF_ap, seq_t, seq_s, seq_r, oSeq_l, mStar_ap, kSt_ap, kSt1_s, kSt2_ap, lst_d, oLst_s, mTupRev_ap, kRev_t, kRev_s, len_st, min_l, oTy_t, oTy_d, isi_i, isi_s, mIdx_ap, kIx_s, kIxs_ap, kIx1_s, iA_ap, itA_t, itA_s, oItem_d, oItem_l, oItem_r, it_tup, oC_some, it_str, keyD_s, keyD_i, app_r, oApp_l, ext_r, oExt_l, ty_ref, oTy_l, isi_ref, oIsi_l, put_ref, oPut_d, oPutK_s, oBls_s, all_r, oAll_l, tup_r, oTup_l, itE_r, oEnum_l, List.map_cons, List.map_nil, List.length_cons, List.length_nil, List.replicate, List.cons_append, List.nil_append, List.set_cons_zero, List.set_cons_succ, List.getElem?_cons_zero, List.getElem?_cons_succ, Nat.reduceSub, Nat.reduceAdd, Nat.reduceLeDiff, Nat.reduceLT,  cond_true, cond_false, if_true, if_false, ite_true, ite_false, Bool.false_eq_true, reduceIte, Nat.zero_add, Option.bind_some, ne_eq, Int.reduceEq, not_false_eq_true, not_true_eq_false, decide_true, decide_false, Bool.not_true, Bool.not_false, *])

def valI (C : List Str) (v : Str) (d : D) : Int := match (ksOf d).getD (ix C v) (.inl 0) with
  | .inl i => i
  | .inr _ => 0
theorem meas_str {C : List Str} {rs : List D} {v : Str} (r : Rows C (kdC C) rs) (hv : v ∈ C) (hn : (kdC C).getD (ix C v) true = true) : Meas C rs (.str v) (valI C v) := by
  refine .inr ⟨v, rfl, hv, fun d hd => ?_⟩
  have q := getD_isL (ks := ksOf d) (j := ix C v)
  rw [(r d hd).2, hn] at q
  unfold valI
  cases e : (ksOf d).getD (ix C v) (.inl 0) with
  | inl i => rfl
  | inr z => rw [e] at q; cases q
def xs3 : List D := [.str "w", .str "a.1", .str "z"]
theorem x_in {t : Int} : ∃ x : Str, atI xs3 (t.fmod 3) = some (.str x) ∧ PyData.strOk x = true := by
  obtain ⟨x, hx, e⟩ := at_in (xs := xs3) (j := t.fmod 3) (fmod_range t 3 (by omega))
  unfold xs3 at hx
  simp only [List.mem_cons, List.not_mem_nil, or_false] at hx
  rcases hx with rfl | rfl | rfl
  · exact ⟨_, e, by decide +kernel⟩
  · exact ⟨_, e, by decide +kernel⟩
  · exact ⟨_, e, by decide +kernel⟩
/-- the columns of numbers -/
theorem nums_list {C : List Str} (hl : C.length ≤ 1000) {h : HP} {x0 x1 x2 x4 x5 x6 x7 x8 x9 x10 x11 x12 : Option D} :
    ∃ h', mLcG (iA (mVar 3)) (.one 6) (mTest (m2 (eqG true) (mVar 6) (mC (.str "n")))) (mVar 6) [x0, x1, x2, some (.stp (C.map D.str)), x4, x5, x6, x7, x8, x9, x10, x11, x12] h = .ok (.ref h.length) h' ∧ At h ((C.map D.str).filter fun d => decide (strOf d ≠ "n")) h' := by
  obtain ⟨h', e, a⟩ := lc_some (it := iA (mVar 3)) (tg := .one 6) (c := mTest (m2 (eqG true) (mVar 6) (mC (.str "n")))) (el := mVar 6) (s := [x0, x1, x2, some (.stp (C.map D.str)), x4, x5, x6, x7, x8, x9, x10, x11, x12]) (f := id) (p := fun d => decide (strOf d ≠ "n")) (It.stp (h := h) (xs := C.map D.str)) (fun G e => by rw [← e]; rfl)
    (fun d hd h' x => by
      obtain ⟨c, _, rfl⟩ := List.mem_map.mp hd
      refine ⟨_, h', rfl, ?_, X0.refl _, fun _ => ⟨h', rfl, X0.refl _⟩⟩
      show mTest (m2 (eqG true) (mVar 6) (mC (.str "n"))) [x0, x1, x2, some (.stp (C.map D.str)), x4, x5, some (.str c), x7, x8, x9, x10, x11, x12] h' = PM.R.ok (decide (c ≠ "n")) h'
      have q : decide (c ≠ "n") = !decide (c = "n") := by simp
      rw [q]
      walk_at "pm") (by simp; omega)
  rw [List.map_id] at a
  exact ⟨h', e, a⟩
theorem law3 {row : List Int} {C names : List Str} {rs : List D} {f : Str} {t : Int} {h : HP} (ck : Cok C) (hf : isF f) (a : Dr row h) (r : Rows C (kdC C) rs) (hn : ∀ nm ∈ names, nm ∈ C) (hl : names.length ≤ 900) (ok : ∀ d ∈ rs, (ksOf d).all okK = true) (lr : rs.length ≤ 1000) {x0 x4 x5 x6 x10 x11 x12 : Option D} :
    ∃ h' y10 y11 y12, L_law_3 [x0, some (.ref 2), some (.int t), some (.stp (C.map D.str)), x4, x5, x6, some (.tup [.stp (C.map D.str), .tup rs]), some (.stp (names.map D.str)), some (.str f), x10, x11, x12] h = .nx [x0, some (.ref 2), some (.int t), some (.stp (C.map D.str)), x4, x5, x6, some (.tup [.stp (C.map D.str), .tup rs]), some (.stp (names.map D.str)), some (.str f), y10, y11, y12] h' ∧ Dr row h' ∧ Fr 2 h h' := by
  obtain ⟨h1, e1, a1⟩ := nums_list (C := C) (by have := ck.len; omega) (h := h) (x0 := x0) (x1 := some (.ref 2)) (x2 := some (.int t)) (x4 := x4) (x5 := x5) (x6 := x6) (x7 := some (.tup [.stp (C.map D.str), .tup rs])) (x8 := some (.stp (names.map D.str))) (x9 := some (.str f)) (x10 := some .non) (x11 := x11) (x12 := x12)
  have d1 := a.x0 a1.1
  have g1 := a1.2
  obtain ⟨x, ex, okx⟩ := x_in (t := t)
  have ye : D.str "y" ∈ (C.map D.str).filter fun d => decide (strOf d ≠ "n") := List.mem_filter.mpr ⟨List.mem_map.mpr ⟨_, ck.y, rfl⟩, by decide +kernel⟩
  -- the value, behind one draw or none
  obtain ⟨y, vl, h2, me, hc, d2, fr2, ev⟩ : ∃ (y : D) (vl : D → Int) (h2 : HP), Meas C rs y vl ∧ (f = "count" ↔ y = .non) ∧ Dr row h2 ∧ Fr 2 h1 h2 ∧
      mIfS (mTest (m2 (eqG true) (mVar 9) (mC (.str "count")))) (mSet 10 (m2 itemH (mVar 11) (mCall m_u_law_pick (mCons (mVar 1) (mCons (mB lenG (mCons (mVar 11) mNil)) mNil))))) mNext [x0, some (.ref 2), some (.int t), some (.stp (C.map D.str)), x4, x5, x6, some (.tup [.stp (C.map D.str), .tup rs]), some (.stp (names.map D.str)), some (.str f), some .non, some (.ref h.length), x12] h1 =
        .nx [x0, some (.ref 2), some (.int t), some (.stp (C.map D.str)), x4, x5, x6, some (.tup [.stp (C.map D.str), .tup rs]), some (.stp (names.map D.str)), some (.str f), some y, some (.ref h.length), x12] h2 := by
    by_cases c : f = "count"
    · have c' := eq_true c
      refine ⟨.non, fun _ => 0, h1, .inl ⟨rfl, rfl⟩, ⟨fun _ => rfl, fun _ => c⟩, d1, Fr.refl _ _, ?_⟩
      clear e1 a1 c ex
      walk_at "pm"
    · have c' := eq_false c
      have pos : (0 : Int) < (((C.map D.str).filter fun d => decide (strOf d ≠ "n")).length : Int) := by
        have := List.length_pos_of_mem ye
        omega
      obtain ⟨j, h2, e2, hj, d2, f2⟩ := pickD d1 pos
      obtain ⟨v, hv, eat⟩ := at_in hj
      have g2 := f2.at' _ _ (by have := a.gt; omega) g1
      obtain ⟨hv1, hv2⟩ := List.mem_filter.mp hv
      obtain ⟨v, hvC, rfl⟩ := List.mem_map.mp hv1
      have nv : v ≠ "n" := of_decide_eq_true hv2
      refine ⟨.str v, valI C v, h2, meas_str r hvC (ck.num v hvC nv), ⟨fun h => absurd h c, fun h => by cases h⟩, d2, f2, ?_⟩
      clear e1 a1 c ex ye hv hv1 hv2 pos
      generalize ((C.map D.str).filter fun d => decide (strOf d ≠ "n")) = ns at *
      walk_at "pm"
  -- list(table[1]), the names of the new columns
  have g3 : ((h2 ++ [Ob.lst rs]) ++ [.lst xs3])[h2.length]? = some (.lst rs) := (X0.app _ _).at' _ _ last_get
  have d3 : Dr row ((h2 ++ [Ob.lst rs]) ++ [.lst xs3]) := (d2.x0 (X0.app _ _)).x0 (X0.app _ _)
  have g4 : ((h2 ++ [Ob.lst rs]) ++ [Ob.lst xs3])[(h2 ++ [Ob.lst rs]).length]? = some (.lst xs3) := last_get
  obtain ⟨T, h5, e5, x5', eg, hne⟩ := fn_ok (x := x) hf me hc r hn hl ok lr okx ck.ok g3
  obtain ⟨h6, e6, x6'⟩ := eg (h5 ++ [.lst xs3])
  have g6 : (h5 ++ [Ob.lst xs3])[h5.length]? = some (.lst xs3) := last_get
  have ne := hne h6
  have d6 := ((d3.x0 x5').x0 (X0.app h5 [Ob.lst xs3])).x0 x6'
  have at1 : atI [D.stp (C.map D.str), .tup rs] 1 = some (.tup rs) := by
    have q : [D.stp (C.map D.str), .tup rs][1]? = some (.tup rs) := rfl
    exact atI_nat q
  refine ⟨h6, some y, some (.ref h.length), some T, ?_, d6, (a1.1.fr.trans fr2).trans (((((X0.app h2 [Ob.lst rs]).trans (X0.app _ [Ob.lst xs3])).trans x5').trans ((X0.app h5 [Ob.lst xs3]).trans x6')).fr)⟩
  unfold L_law_3
  have n1 : mSet 10 (mC .non) [x0, some (.ref 2), some (.int t), some (.stp (C.map D.str)), x4, x5, x6, some (.tup [.stp (C.map D.str), .tup rs]), some (.stp (names.map D.str)), some (.str f), x10, x11, x12] h = .nx [x0, some (.ref 2), some (.int t), some (.stp (C.map D.str)), x4, x5, x6, some (.tup [.stp (C.map D.str), .tup rs]), some (.stp (names.map D.str)), some (.str f), some .non, x11, x12] h := rfl
  rw [mSeq_ap, n1, seq_nx, mSeq_ap, mSet_nx e1, seq_nx, mSeq_ap]
  rw [show (List.set [x0, some (.ref 2), some (.int t), some (.stp (C.map D.str)), x4, x5, x6, some (.tup [.stp (C.map D.str), .tup rs]), some (.stp (names.map D.str)), some (.str f), some .non, x11, x12] 11 (some (D.ref h.length))) = [x0, some (.ref 2), some (.int t), some (.stp (C.map D.str)), x4, x5, x6, some (.tup [.stp (C.map D.str), .tup rs]), some (.stp (names.map D.str)), some (.str f), some .non, some (.ref h.length), x12] from rfl, ev, seq_nx]
  clear fr2 e1 a1 g1 ev me hc r hn ok ye d1 d2 d3 d6 x5' x6' hne eg n1 a
  unfold xs3 at *
  walk_at "pm"
end K21
end
section
set_option Elab.async false
set_option linter.all false
set_option maxRecDepth 100000
set_option maxHeartbeats 1000000
namespace K21
open PySem L2 PM
local macro_rules | `(tactic| walk_at "pm") => `(tactic| simp only [bind_ok, toS_ok, seq_nx, seq_rt, seq_bk, seq_ct, seq_exc, bind_exc, toS_exc, mSeq_ap, mNext_ap, mSet_ap, kSet_ap, mAsg_ap, kAsg_ap, ofS_some, gN_ap, gTup_ap, gCons_ap, gNil_ap, mDrop_ap, kDrop_ap, mRet_ap, mRetN_ap, mIfS_ap, kIf_t, kIf_f, mBreak_ap, mCont_ap, mBad_ap, mAug_ap, kAug_ap, mVar_ap, mC_ap, m1_ap, k1_ap, m2_ap, k2_ap, k2'_ap, ofO_some, mNil_ap, mCons_ap, kC_ap, kC'_ap, mCall_ap, mB_ap, kB_ap, mMeth_ap, kM_ap, kM'_ap, mTest_ap, kBl_ap, mNot_ap, kNot_ap, mAnd_ap, kAnd_t, kAnd_f, mOr_ap, kOr_t, kOr_f, mIfE_ap, kIfE_t, kIfE_f, mAndV_ap, kAndV_t, kAndV_f, mOrV_ap, kOrV_t, kOrV_f, mNotV_ap, kNotV_ap, mTup_ap, kTup_ap, mLst_ap, kLst_ap, mNoPart_ap, mPart_ap, kInt_ap, mSl_ap, kSl1_ap, kSl2_ap, kSl3_ap, mChain_ap, kCh0_ap, kCh1_ap, kCh2_t, kCh2_f, kCh3_ap, mPutD_ap, kP1_ap, kP2_ap, kP3_ap, runDef_ap, fin_nx, fin_rt, fin_exc, mYes_ap, add_ii, iadd_ii, add_ss, sub_ii, mul_ii, mul_si, mod_ii, fdiv_ii, pow_ii, neg_i, ord_ii, ord_ss, eq_ii, ne_ii, eq_ss, ne_ss, is_non, isn_non, int_i, len_s, len_t, min_ii, sl_s, in_c, nin_c, split_s, str1_ss, find4_s, ty_str, ord_c, iR1_ap, itR1_i, iS_ap, itS_s, iT_ap, itT_t, iE_ap, oD_some, len_r, oLen_l, oLen_r, oKey_s, it_ref, itH_r, itH_t, itH_s, oIH_d, oIH_l, oIH_r, tupF_r, oTupF_l, mTupF_ap, kTupF_ap, seq_t, seq_s, seq_r, oSeq_l, mStar_ap, kSt_ap, kSt1_s, kSt2_ap, lst_d, oLst_s, mTupRev_ap, kRev_t, kRev_s, len_st, min_l, oTy_t, oTy_d, isi_i, isi_s, mIdx_ap, kIx_s, kIxs_ap, kIx1_s, iA_ap, itA_t, itA_s, oItem_d, oItem_l, oItem_r, it_tup, oC_some, it_str, keyD_s, keyD_i, app_r, oApp_l, ext_r, oExt_l, ty_ref, oTy_l, isi_ref, oIsi_l, put_ref, oPut_d, oPutK_s, oBls_s, all_r, oAll_l, tup_r, oTup_l, itE_r, oEnum_l, List.map_cons, List.map_nil, List.length_cons, List.length_nil, List.replicate, List.cons_append, List.nil_append, List.set_cons_zero, List.set_cons_succ, List.getElem?_cons_zero, List.getElem?_cons_succ, Nat.reduceSub, Nat.reduceAdd, Nat.reduceLeDiff, Nat.reduceLT,  cond_true, cond_false, if_true, if_false, ite_true, ite_false, Bool.false_eq_true, reduceIte, Nat.zero_add, Option.bind_some, ne_eq, Int.reduceEq, not_false_eq_true, not_true_eq_false, decide_true, decide_false, Bool.not_true, Bool.not_false, *])

theorem loop_invG {g : MG} {p : MS} {G : HP → Prop} {Inv : SD → HP → Prop} (hG : ∀ s h, Inv s h → G h) : ∀ {ds : List D} {s : SD} {h : HP}, (∀ d ∈ ds, ∀ s h, Inv s h → ∃ s1 s2 h2, g d s = some s1 ∧ p s1 h = .nx s2 h2 ∧ Inv s2 h2) → Inv s h →
    ∃ s2 h2, mLoop G g p ds s h = .nx s2 h2 ∧ Inv s2 h2
  | [], s, h, _, i => ⟨s, h, mLoop_nil (hG _ _ i), i⟩
  | d :: ds, s, h, st, i => by
    obtain ⟨s1, s2, h2, e1, e2, i2⟩ := st d List.mem_cons_self s h i
    obtain ⟨s3, h3, e3, i3⟩ := loop_invG hG (fun d hd => st d (List.mem_cons_of_mem _ hd)) i2
    exact ⟨s3, h3, by rw [mLoop_nx (hG _ _ i) e1 (.inl e2), e3], i3⟩
def nxy : List D := [.str "n", .str "x", .str "y"]
theorem cut_cols {j : Int} (h : 0 ≤ j ∧ j < 3) : ∃ C, Cok C ∧ cutD nxy (some j) none = C.map D.str := by
  have q : j = 0 ∨ j = 1 ∨ j = 2 := by omega
  rcases q with rfl | rfl | rfl
  · exact ⟨_, cok3, rfl⟩
  · exact ⟨_, cok2, rfl⟩
  · exact ⟨_, cok1, rfl⟩
theorem slL_at {i : Nat} {xs : List D} {h : HP} {lo hi : Option Int} (e : h[i]? = some (.lst xs)) : slL (.ref i) lo hi h = some (.ref h.length, h ++ [.lst (cutD xs lo hi)]) := by
  unfold slL; dsimp only; rw [e]
/-- the columns -/
noncomputable def colE : ME := mB toTupF (mCons (mSl slL (mLst (mCons (mC (.str "n")) (mCons (mC (.str "x")) (mCons (mC (.str "y")) (mNil))))) (mPart (mCall m_u_law_pick (mCons (mVar 1) (mCons (mC (.int 3)) (mNil))))) mNoPart) (mNil))
theorem col_ok {row : List Int} {h : HP} (a : Dr row h) {x0 x2 x3 x4 x5 x6 x7 x8 x9 x10 x11 x12 : Option D} : ∃ C h', Cok C ∧ colE [x0, some (.ref 2), x2, x3, x4, x5, x6, x7, x8, x9, x10, x11, x12] h = .ok (.stp (C.map D.str)) h' ∧ Dr row h' := by
  have x1 : X0 h (h ++ [Ob.lst nxy]) := X0.app _ _
  obtain ⟨j, h1, e1, hj, a1, f1⟩ := pickD (a.x0 x1) (m := 3) (by omega)
  have g1 : h1[h.length]? = some (.lst nxy) := f1.at' _ _ (by have := a.gt; omega) last_get
  obtain ⟨C, ck, ec⟩ := cut_cols hj
  have es := slL_at (lo := some j) (hi := none) g1
  rw [ec] at es
  have g2 : (h1 ++ [Ob.lst (C.map D.str)])[h1.length]? = some (.lst (C.map D.str)) := last_get
  refine ⟨C, h1 ++ [.lst (C.map D.str)], ck, ?_, a1.x0 (X0.app _ _)⟩
  unfold colE
  clear ec ck hj f1 a1 x1 a g1
  unfold nxy at *
  walk_at "pm"
/-- the rows' loop -/
structure R2 (row : List Int) (C : List Str) (Ro : Nat) (x0 x2 x6 x7 x8 x9 x10 x11 x12 : Option D) (n : Nat) (s : SD) (h : HP) : Prop where
  ex : ∃ x5 rs, s = [x0, some (.ref 2), x2, some (.stp (C.map D.str)), some (.ref Ro), x5, x6, x7, x8, x9, x10, x11, x12] ∧ Dr row h ∧ h[Ro]? = some (.lst rs) ∧ Rows C (kdC C) rs ∧ (∀ d ∈ rs, (ksOf d).all okK = true) ∧ rs.length = n
theorem rows_ok {row : List Int} {C : List Str} {h : HP} (ck : Cok C) (a : Dr row h) {x0 x2 x5 x6 x7 x8 x9 x10 x11 x12 : Option D} :
    ∃ rs h' y5, mFor (iR1 (mCons (mCall m_u_law_pick (mCons (mVar 1) (mCons (mC (.int 11)) (mNil)))) (mNil))) (gN 5) L_law_2 [x0, some (.ref 2), x2, some (.stp (C.map D.str)), some (.ref h.length), x5, x6, x7, x8, x9, x10, x11, x12] (h ++ [.lst []]) = .nx [x0, some (.ref 2), x2, some (.stp (C.map D.str)), some (.ref h.length), y5, x6, x7, x8, x9, x10, x11, x12] h' ∧
      Dr row h' ∧ h'[h.length]? = some (.lst rs) ∧ Rows C (kdC C) rs ∧ (∀ d ∈ rs, (ksOf d).all okK = true) ∧ rs.length ≤ 1000 := by
  have x1 : X0 h (h ++ [Ob.lst []]) := X0.app _ _
  obtain ⟨j, h1, e1, hj, a1, f1⟩ := pickD (a.x0 x1) (m := 11) (by omega)
  have g1 : h1[h.length]? = some (.lst []) := f1.at' _ _ (by have := a.gt; omega) last_get
  have gt := a.gt
  obtain ⟨s2, h2, e2, i2⟩ := loop_idx (g := gN 5) (p := L_law_2) (Inv := R2 row C h.length x0 x2 x6 x7 x8 x9 x10 x11 x12) (n := j.toNat) (k := 0) (fun m _ hm s h' i => by
    obtain ⟨y5, rs, rfl, a', e', r', ok', l'⟩ := i.ex
    obtain ⟨ks, h3, e3, a3, g3, k1, k2, k3⟩ := law2 (C := C) (d := .int (0 + (m : Int))) (by have := ck.len; omega) a' gt e' (by omega) (x0 := x0) (x2 := x2) (x6 := x6) (x7 := x7) (x8 := x8) (x9 := x9) (x10 := x10) (x11 := x11) (x12 := x12)
    have kk : ksOf (.tup (ks.map kD)) = ks := RowD.ks (.inl rfl)
    refine ⟨_, _, h3, rfl, e3, some (.int (0 + (m : Int))), rs ++ [.tup (ks.map kD)], rfl, a3, g3, fun d hd => ?_, fun d hd => ?_, by simp [l']⟩
    · rcases List.mem_append.mp hd with hd | hd
      · exact r' d hd
      · simp only [List.mem_singleton] at hd
        subst hd
        exact ⟨⟨by rw [kk]; exact .inl rfl, by rw [kk]; exact k3⟩, by rw [kk]; exact k1⟩
    · rcases List.mem_append.mp hd with hd | hd
      · exact ok' d hd
      · simp only [List.mem_singleton] at hd
        subst hd
        rw [kk]; exact k2) (s := [x0, some (.ref 2), x2, some (.stp (C.map D.str)), some (.ref h.length), x5, x6, x7, x8, x9, x10, x11, x12]) (h := h1) ⟨x5, [], rfl, a1, g1, fun d hd => (by cases hd), fun d hd => (by cases hd), rfl⟩
  obtain ⟨y5, rs, rfl, a', e', r', ok', l'⟩ := i2.ex
  refine ⟨rs, h2, y5, ?_, a', e', r', ok', by omega⟩
  refine (mFor_ok (xs := (List.range' 0 j.toNat).map fun (i : Nat) => .int (0 + (i : Int))) (G := fun _ => True) (h' := h1) ?_).trans e2
  have rr : itR1 [.int j] h1 = .ok ((List.range' 0 j.toNat).map fun (i : Nat) => .int (0 + (i : Int)), fun _ => True) h1 := by
    rw [itR1_i ⟨by omega, by omega⟩, List.range_eq_range']
  clear e2 i2 e' a' r' ok' l' g1 x1 a a1 f1
  walk_at "pm"
/-- the names to group by -/
noncomputable def namE : ME := mB toTupF (mCons (mLcG (iA (mVar 3)) (.one 6) (mTest (m2 (eqG false) (mCall m_u_law_pick (mCons (mVar 1) (mCons (mC (.int 2)) (mNil)))) (mC (.int 0)))) (mVar 6)) (mNil))
theorem of_strs {C : List Str} : ∀ {ys : List D}, (∀ y ∈ ys, y ∈ C.map D.str) → ∃ ns : List Str, ys = ns.map D.str ∧ ∀ n ∈ ns, n ∈ C
  | [], _ => ⟨[], rfl, fun _ h => by cases h⟩
  | y :: ys, h => by
    obtain ⟨ns, rfl, hn⟩ := of_strs fun y hy => h y (List.mem_cons_of_mem _ hy)
    obtain ⟨c, hc, rfl⟩ := List.mem_map.mp (h y List.mem_cons_self)
    exact ⟨c :: ns, rfl, fun n hn2 => by
      rcases List.mem_cons.mp hn2 with rfl | h
      · exact hc
      · exact hn n h⟩
theorem nam_ok {row : List Int} {C : List Str} {h : HP} (ck : Cok C) (a : Dr row h) {x0 x2 x4 x5 x6 x7 x8 x9 x10 x11 x12 : Option D} : ∃ (ns : List Str) (h' : HP), namE [x0, some (.ref 2), x2, some (.stp (C.map D.str)), x4, x5, x6, x7, x8, x9, x10, x11, x12] h = .ok (.stp (ns.map D.str)) h' ∧ Dr row h' ∧ (∀ n ∈ ns, n ∈ C) ∧ ns.length ≤ 3 := by
  have q := mLcG_ok (it := iA (mVar 3)) (tg := .one 6) (cc := mTest (m2 (eqG false) (mCall m_u_law_pick (mCons (mVar 1) (mCons (mC (.int 2)) (mNil)))) (mC (.int 0)))) (el := mVar 6) (s := [x0, some (.ref 2), x2, some (.stp (C.map D.str)), x4, x5, x6, x7, x8, x9, x10, x11, x12]) (h := h) (xs := C.map D.str) (G := fun _ => True) (h' := h) rfl
  obtain ⟨ys, h1, e1, f1, a1, g1, ps, pl⟩ := cl_drc (row := row) (h0 := h) (tg := .one 6) (c := mTest (m2 (eqG false) (mCall m_u_law_pick (mCons (mVar 1) (mCons (mC (.int 2)) (mNil)))) (mC (.int 0)))) (el := mVar 6) (s := [x0, some (.ref 2), x2, some (.stp (C.map D.str)), x4, x5, none, x7, x8, x9, x10, x11, x12]) a.gt (ds := C.map D.str) (acc := []) (h := h ++ [.lst []]) (fun d hd h a => by
    obtain ⟨j, h2, e, _, a', f⟩ := pickD a (m := 2) (by omega)
    refine ⟨_, decide (j = 0), h2, rfl, ?_, a', f, rfl⟩
    show mTest (m2 (eqG false) (mCall m_u_law_pick (mCons (mVar 1) (mCons (mC (.int 2)) (mNil)))) (mC (.int 0))) [x0, some (.ref 2), x2, some (.stp (C.map D.str)), x4, x5, some d, x7, x8, x9, x10, x11, x12] h = _
    clear q f a a'
    walk_at "pm") (Fr.app _ _ _) (a.x0 (X0.app _ _)) last_get (by have := ck.len; simp; omega)
  obtain ⟨ns, rfl, hn⟩ := of_strs ps
  rw [List.nil_append] at g1
  have e3 := q.trans e1
  refine ⟨ns, h1, ?_, a1, hn, by have := ck.len; simp at pl; omega⟩
  unfold namE
  clear q e1 ps hn f1 a a1
  walk_at "pm"
theorem law1 {row : List Int} {h : HP} {t : Int} (a : Dr row h) {x3 x4 x5 x6 x7 x8 x9 x10 x11 x12 : Option D} :
    ∃ h' y3 y4 y5 y6 y7 y8 y9 y10 y11 y12, L_law_1 [some (.ref 0), some (.ref 2), some (.int t), x3, x4, x5, x6, x7, x8, x9, x10, x11, x12] h = .nx [some (.ref 0), some (.ref 2), some (.int t), y3, y4, y5, y6, y7, y8, y9, y10, y11, y12] h' ∧ Dr row h' := by
  obtain ⟨C, h1, ck, e1, a1⟩ := col_ok a (x0 := some (.ref 0)) (x2 := some (.int t)) (x3 := x3) (x4 := x4) (x5 := x5) (x6 := x6) (x7 := x7) (x8 := x8) (x9 := x9) (x10 := x10) (x11 := x11) (x12 := x12)
  obtain ⟨rs, h2, y5, e2, a2, g2, r2, ok2, l2⟩ := rows_ok ck a1 (x0 := some (.ref 0)) (x2 := some (.int t)) (x5 := x5) (x6 := x6) (x7 := x7) (x8 := x8) (x9 := x9) (x10 := x10) (x11 := x11) (x12 := x12)
  obtain ⟨h3, e3, x3'⟩ := mt_ok (It.lst g2) r2 (by have := ck.len; omega) l2
  have a3 := a2.x0 x3'
  have rr := rowsD_rows r2
  have okr : ∀ d ∈ rowsD C rs, (ksOf d).all okK = true := fun d hd => by
    obtain ⟨x, hx, rfl⟩ := rowsD_mem hd
    rw [prD_ks]; exact prj_ok (ok2 x hx)
  have lr : (rowsD C rs).length ≤ 1000 := Nat.le_trans rowsD_len l2
  have et : tabD C rs = .tup [.stp (C.map D.str), .tup (rowsD C rs)] := by unfold tabD; rw [ck.kept]
  rw [ck.kept, ck.kd] at rr
  obtain ⟨ns, h4, e4, a4, n4, l4⟩ := nam_ok ck a3 (x0 := some (.ref 0)) (x2 := some (.int t)) (x4 := some (.ref h1.length)) (x5 := y5) (x6 := x6) (x7 := some (tabD C rs)) (x8 := x8) (x9 := x9) (x10 := x10) (x11 := x11) (x12 := x12)
  -- backwards or not
  obtain ⟨names, h5, e5, a5, n5, l5⟩ : ∃ (names : List Str) (h5 : HP), mIfS (mTest (m2 (eqG false) (mCall m_u_law_pick (mCons (mVar 1) (mCons (mC (.int 2)) (mNil)))) (mC (.int 0)))) (mSet 8 (mTupRev (mVar 8))) (mNext) [some (.ref 0), some (.ref 2), some (.int t), some (.stp (C.map D.str)), some (.ref h1.length), y5, x6, some (tabD C rs), some (.stp (ns.map D.str)), x9, x10, x11, x12] h4 =
      .nx [some (.ref 0), some (.ref 2), some (.int t), some (.stp (C.map D.str)), some (.ref h1.length), y5, x6, some (tabD C rs), some (.stp (names.map D.str)), x9, x10, x11, x12] h5 ∧ Dr row h5 ∧ (∀ n ∈ names, n ∈ C) ∧ names.length ≤ 3 := by
    obtain ⟨j, h5, e, _, a', _⟩ := pickD a4 (m := 2) (by omega)
    generalize tabD C rs = tt
    by_cases c : j = 0
    · have c' := eq_true c
      refine ⟨ns.reverse, h5, ?_, a', fun n hn => n4 n (by simpa using hn), by simpa using l4⟩
      have er : (ns.map D.str).reverse = ns.reverse.map D.str := List.map_reverse.symm
      clear e1 e2 e3 e4 c
      walk_at "pm"
    · have c' := eq_false c
      refine ⟨ns, h5, ?_, a', n4, l4⟩
      clear e1 e2 e3 e4 c
      walk_at "pm"
  -- the functions
  have x6' : X0 h5 (h5 ++ [Ob.lst [.str "count", .str "sum", .str "least", .str "most"]]) := X0.app _ _
  have gt := a5.gt
  obtain ⟨s6, h6, e6, i6⟩ := loop_invG (g := gN 9) (p := L_law_3) (G := fun h => h[h5.length]? = some (.lst [.str "count", .str "sum", .str "least", .str "most"]))
    (Inv := fun s h => (∃ y9 y10 y11 y12, s = [some (.ref 0), some (.ref 2), some (.int t), some (.stp (C.map D.str)), some (.ref h1.length), y5, x6, some (tabD C rs), some (.stp (names.map D.str)), y9, y10, y11, y12]) ∧ Dr row h ∧ h[h5.length]? = some (.lst [.str "count", .str "sum", .str "least", .str "most"])) (fun _ _ i => i.2.2)
    (ds := [.str "count", .str "sum", .str "least", .str "most"]) (fun d hd s h i => by
      obtain ⟨⟨y9, y10, y11, y12, rfl⟩, ai, gi⟩ := i
      have hf : ∃ f, d = .str f ∧ isF f := by
        simp only [List.mem_cons, List.not_mem_nil, or_false] at hd
        rcases hd with rfl | rfl | rfl | rfl
        · exact ⟨_, rfl, .inl rfl⟩
        · exact ⟨_, rfl, .inr (.inl rfl)⟩
        · exact ⟨_, rfl, .inr (.inr (.inl rfl))⟩
        · exact ⟨_, rfl, .inr (.inr (.inr rfl))⟩
      obtain ⟨f, rfl, hf⟩ := hf
      obtain ⟨h', z10, z11, z12, e, a', f'⟩ := law3 ck hf ai rr n5 (by omega) okr lr (t := t) (x0 := some (.ref 0)) (x4 := some (.ref h1.length)) (x5 := y5) (x6 := x6) (x10 := y10) (x11 := y11) (x12 := y12)
      rw [← et] at e
      exact ⟨_, _, h', rfl, e, ⟨some (.str f), z10, z11, z12, rfl⟩, a', f'.at' _ _ (by omega) gi⟩) (s := [some (.ref 0), some (.ref 2), some (.int t), some (.stp (C.map D.str)), some (.ref h1.length), y5, x6, some (tabD C rs), some (.stp (names.map D.str)), x9, x10, x11, x12]) (h := h5 ++ [.lst [.str "count", .str "sum", .str "least", .str "most"]]) ⟨⟨x9, x10, x11, x12, rfl⟩, a5.x0 x6', last_get⟩
  obtain ⟨⟨y9, y10, y11, y12, rfl⟩, a6, _⟩ := i6
  refine ⟨h6, some (.stp (C.map D.str)), some (.ref h1.length), y5, x6, some (tabD C rs), some (.stp (names.map D.str)), y9, y10, y11, y12, ?_, a6⟩
  have m9 : mFor (iA (mLst (mCons (mC (.str "count")) (mCons (mC (.str "sum")) (mCons (mC (.str "least")) (mCons (mC (.str "most")) (mNil))))))) (gN 9) L_law_3 [some (.ref 0), some (.ref 2), some (.int t), some (.stp (C.map D.str)), some (.ref h1.length), y5, x6, some (tabD C rs), some (.stp (names.map D.str)), x9, x10, x11, x12] h5 = .nx [some (.ref 0), some (.ref 2), some (.int t), some (.stp (C.map D.str)), some (.ref h1.length), y5, x6, some (tabD C rs), some (.stp (names.map D.str)), y9, y10, y11, y12] h6 := by
    refine (mFor_ok ?_).trans e6
    show itA (.ref h5.length) (h5 ++ [.lst [.str "count", .str "sum", .str "least", .str "most"]]) = _
    unfold itA
    dsimp only
    rw [last_get]
  unfold L_law_1
  unfold colE at e1
  rw [mSeq_ap, mSet_nx e1, seq_nx, mSeq_ap]
  rw [mSet_nx (i := 4) (a := mLst mNil) (d := .ref h1.length) (h' := h1 ++ [.lst []]) rfl, seq_nx, mSeq_ap]
  refine (congrArg (fun z => RS.seq z _) e2).trans ?_
  rw [seq_nx, mSeq_ap]
  have m7 : mCall m_make_table (mCons (mVar 3) (mCons (mVar 4) mNil)) [some (.ref 0), some (.ref 2), some (.int t), some (.stp (C.map D.str)), some (.ref h1.length), y5, x6, x7, x8, x9, x10, x11, x12] h2 = .ok (tabD C rs) h3 := e3
  rw [mSet_nx m7, seq_nx, mSeq_ap]
  have m8 := mSet_nx (i := 8) e4
  refine (congrArg (fun z => RS.seq z _) m8).trans ?_
  rw [seq_nx, mSeq_ap]
  refine (congrArg (fun z => RS.seq z _) e5).trans ?_
  rw [seq_nx]
  exact m9
theorem main (ns : List Int) (hn : ns.length ≤ 63) : ∃ h', m_law [.ref 0] [.rdl (ns.map D.int)] = .ok (.bl true) h' := by
  obtain ⟨h1, row, e1, s1, _, _⟩ := stream_ok hn
  obtain ⟨s2, h2, e2, i2⟩ := loop_invG (g := gN 2) (p := L_law_1) (G := fun _ => True)
    (Inv := fun s h => (∃ y2 y3 y4 y5 y6 y7 y8 y9 y10 y11 y12, s = [some (.ref 0), some (.ref 2), y2, y3, y4, y5, y6, y7, y8, y9, y10, y11, y12]) ∧ Dr row h) (fun _ _ _ => trivial)
    (ds := (List.range 4).map fun (i : Nat) => .int (0 + i)) (fun d hd s h i => by
      obtain ⟨⟨y2, y3, y4, y5, y6, y7, y8, y9, y10, y11, y12, rfl⟩, ai⟩ := i
      obtain ⟨m, _, rfl⟩ := List.mem_map.mp hd
      obtain ⟨h', z3, z4, z5, z6, z7, z8, z9, z10, z11, z12, e, a'⟩ := law1 (t := 0 + (m : Int)) ai (x3 := y3) (x4 := y4) (x5 := y5) (x6 := y6) (x7 := y7) (x8 := y8) (x9 := y9) (x10 := y10) (x11 := y11) (x12 := y12)
      exact ⟨_, _, h', rfl, e, ⟨some (.int (0 + (m : Int))), z3, z4, z5, z6, z7, z8, z9, z10, z11, z12, rfl⟩, a'⟩) (s := [some (.ref 0), some (.ref 2), none, none, none, none, none, none, none, none, none, none, none]) (h := h1) ⟨⟨none, none, none, none, none, none, none, none, none, none, none, rfl⟩, ⟨0, s1⟩⟩
  obtain ⟨⟨y2, y3, y4, y5, y6, y7, y8, y9, y10, y11, y12, rfl⟩, _⟩ := i2
  refine ⟨h2, ?_⟩
  have mf : mFor (iR1 (mCons (mC (.int 4)) mNil)) (gN 2) L_law_1 [some (.ref 0), some (.ref 2), none, none, none, none, none, none, none, none, none, none, none] h1 = .nx [some (.ref 0), some (.ref 2), y2, y3, y4, y5, y6, y7, y8, y9, y10, y11, y12] h2 := by
    refine (mFor_ok ?_).trans e2
    show itR1 [.int 4] h1 = _
    rw [itR1_i ⟨by omega, by omega⟩]
    rfl
  unfold m_law b_law
  clear e2 s1
  walk_at "pm"
end K21
end
section
set_option Elab.async false
set_option linter.all false
set_option maxRecDepth 100000
set_option maxHeartbeats 4000000
namespace K21
open PySem PySem.Spec PyProof.Rows L2 PM
def topS (i : Nat) : Stmt := PySem.Challenge.pw_sheetwatch_k21_groups.main.body.getD i (.Pass ⟨0, 0, 0, 0⟩)

/-! _law_mix -/
abbrev s_u_law_mix : Stmt := topS 9
abbrev N_u_law_mix : List Str := ["cell", "k", "low"]
abbrev P_u_law_mix : List Str := ["cell", "k"]
theorem sc_u_law_mix : FnScope N_u_law_mix P_u_law_mix (defScope s_u_law_mix) := ⟨rfl, rfl, rfl, by decide +kernel, rfl, by decide +kernel, by decide +kernel⟩


/-! _law_stream -/
abbrev s_u_law_stream : Stmt := topS 10
abbrev N_u_law_stream : List Str := ["script", "most", "row", "k", "rest", "j"]
abbrev P_u_law_stream : List Str := ["script", "most"]
theorem sc_u_law_stream : FnScope N_u_law_stream P_u_law_stream (defScope s_u_law_stream) := ⟨rfl, rfl, rfl, by decide +kernel, rfl, by decide +kernel, by decide +kernel⟩


/-! _law_pick -/
abbrev s_u_law_pick : Stmt := topS 11
abbrev N_u_law_pick : List Str := ["draws", "many", "at", "number"]
abbrev P_u_law_pick : List Str := ["draws", "many"]
theorem sc_u_law_pick : FnScope N_u_law_pick P_u_law_pick (defScope s_u_law_pick) := ⟨rfl, rfl, rfl, by decide +kernel, rfl, by decide +kernel, by decide +kernel⟩


/-! _law_value -/
abbrev s_u_law_value : Stmt := topS 12
abbrev N_u_law_value : List Str := ["draws", "name"]
abbrev P_u_law_value : List Str := ["draws", "name"]
theorem sc_u_law_value : FnScope N_u_law_value P_u_law_value (defScope s_u_law_value) := ⟨rfl, rfl, rfl, by decide +kernel, rfl, by decide +kernel, by decide +kernel⟩


/-! order_of -/
abbrev s_order_of : Stmt := topS 4
abbrev N_order_of : List Str := ["value"]
abbrev P_order_of : List Str := ["value"]
theorem sc_order_of : FnScope N_order_of P_order_of (defScope s_order_of) := ⟨rfl, rfl, rfl, by decide +kernel, rfl, by decide +kernel, by decide +kernel⟩


/-! _order_of_row -/
abbrev s_u_order_of_row : Stmt := topS 5
abbrev N_u_order_of_row : List Str := ["row", "value"]
abbrev P_u_order_of_row : List Str := ["row"]
theorem sc_u_order_of_row : FnScope N_u_order_of_row P_u_order_of_row (defScope s_u_order_of_row) := ⟨rfl, rfl, rfl, by decide +kernel, rfl, by decide +kernel, by decide +kernel⟩


/-! rows_in_order -/
abbrev s_rows_in_order : Stmt := topS 2
abbrev N_rows_in_order : List Str := ["rows", "different", "row"]
abbrev P_rows_in_order : List Str := ["rows"]
theorem sc_rows_in_order : FnScope N_rows_in_order P_rows_in_order (defScope s_rows_in_order) := ⟨rfl, rfl, rfl, by decide +kernel, rfl, by decide +kernel, by decide +kernel⟩


/-! _values_in -/
abbrev s_u_values_in : Stmt := topS 6
abbrev N_u_values_in : List Str := ["table", "kept", "columns", "rows", "places", "column", "place", "row"]
abbrev P_u_values_in : List Str := ["table", "kept"]
theorem sc_u_values_in : FnScope N_u_values_in P_u_values_in (defScope s_u_values_in) := ⟨rfl, rfl, rfl, by decide +kernel, rfl, by decide +kernel, by decide +kernel⟩


/-! make_table -/
abbrev s_make_table : Stmt := topS 1
abbrev N_make_table : List Str := ["columns", "rows", "kept"]
abbrev P_make_table : List Str := ["columns", "rows"]
theorem sc_make_table : FnScope N_make_table P_make_table (defScope s_make_table) := ⟨rfl, rfl, rfl, by decide +kernel, rfl, by decide +kernel, by decide +kernel⟩


/-! _law_worked -/
abbrev s_u_law_worked : Stmt := topS 13
abbrev N_u_law_worked : List Str := ["function", "numbers", "least", "most", "total", "number"]
abbrev P_u_law_worked : List Str := ["function", "numbers"]
theorem sc_u_law_worked : FnScope N_u_law_worked P_u_law_worked (defScope s_u_law_worked) := ⟨rfl, rfl, rfl, by decide +kernel, rfl, by decide +kernel, by decide +kernel⟩


/-! _law_due -/
abbrev s_u_law_due : Stmt := topS 14
abbrev N_u_law_due : List Str := ["columns", "rows", "name", "function", "value", "names", "keys", "row", "key", "one", "found", "mine", "numbers"]
abbrev P_u_law_due : List Str := ["columns", "rows", "name", "function", "value", "names"]
theorem sc_u_law_due : FnScope N_u_law_due P_u_law_due (defScope s_u_law_due) := ⟨rfl, rfl, rfl, by decide +kernel, rfl, by decide +kernel, by decide +kernel⟩


/-! value_over -/
abbrev s_value_over : Stmt := topS 7
abbrev N_value_over : List Str := ["function", "rows", "values", "row"]
abbrev P_value_over : List Str := ["function", "rows"]
theorem sc_value_over : FnScope N_value_over P_value_over (defScope s_value_over) := ⟨rfl, rfl, rfl, by decide +kernel, rfl, by decide +kernel, by decide +kernel⟩


/-! group -/
abbrev s_group : Stmt := topS 3
abbrev N_group : List Str := ["table", "x", "function", "y", "names", "measured", "found", "key", "values", "rows"]
abbrev P_group : List Str := ["table", "x", "function", "y", "names"]
theorem sc_group : FnScope N_group P_group (defScope s_group) := ⟨rfl, rfl, rfl, by decide +kernel, rfl, by decide +kernel, by decide +kernel⟩


/-! law -/
abbrev s_law : Stmt := topS 15
abbrev N_law : List Str := ["script", "draws", "turn", "columns", "rows", "k", "name", "table", "names", "function", "value", "numbers", "due"]
abbrev P_law : List Str := ["script"]
theorem sc_law : FnScope N_law P_law (defScope s_law) := ⟨rfl, rfl, rfl, by decide +kernel, rfl, by decide +kernel, by decide +kernel⟩


/-! what the top has left -/
structure Txt (K : PySem.W.Frag) (mg : Str → Option Value) : Prop where
  d_u_law_mix : ∃ fd, FnP K "_law_mix" s_u_law_mix (He.ga K "_law_mix") fd
  a_u_law_mix : mg "_law_mix" = some (.ref (He.ga K "_law_mix"))
  d_u_law_stream : ∃ fd, FnP K "_law_stream" s_u_law_stream (He.ga K "_law_stream") fd
  a_u_law_stream : mg "_law_stream" = some (.ref (He.ga K "_law_stream"))
  d_u_law_pick : ∃ fd, FnP K "_law_pick" s_u_law_pick (He.ga K "_law_pick") fd
  a_u_law_pick : mg "_law_pick" = some (.ref (He.ga K "_law_pick"))
  d_u_law_value : ∃ fd, FnP K "_law_value" s_u_law_value (He.ga K "_law_value") fd
  a_u_law_value : mg "_law_value" = some (.ref (He.ga K "_law_value"))
  d_order_of : ∃ fd, FnP K "order_of" s_order_of (He.ga K "order_of") fd
  a_order_of : mg "order_of" = some (.ref (He.ga K "order_of"))
  d_u_order_of_row : ∃ fd, FnP K "_order_of_row" s_u_order_of_row (He.ga K "_order_of_row") fd
  a_u_order_of_row : mg "_order_of_row" = some (.ref (He.ga K "_order_of_row"))
  d_rows_in_order : ∃ fd, FnP K "rows_in_order" s_rows_in_order (He.ga K "rows_in_order") fd
  a_rows_in_order : mg "rows_in_order" = some (.ref (He.ga K "rows_in_order"))
  d_u_values_in : ∃ fd, FnP K "_values_in" s_u_values_in (He.ga K "_values_in") fd
  a_u_values_in : mg "_values_in" = some (.ref (He.ga K "_values_in"))
  d_make_table : ∃ fd, FnP K "make_table" s_make_table (He.ga K "make_table") fd
  a_make_table : mg "make_table" = some (.ref (He.ga K "make_table"))
  d_u_law_worked : ∃ fd, FnP K "_law_worked" s_u_law_worked (He.ga K "_law_worked") fd
  a_u_law_worked : mg "_law_worked" = some (.ref (He.ga K "_law_worked"))
  d_u_law_due : ∃ fd, FnP K "_law_due" s_u_law_due (He.ga K "_law_due") fd
  a_u_law_due : mg "_law_due" = some (.ref (He.ga K "_law_due"))
  d_value_over : ∃ fd, FnP K "value_over" s_value_over (He.ga K "value_over") fd
  a_value_over : mg "value_over" = some (.ref (He.ga K "value_over"))
  d_group : ∃ fd, FnP K "group" s_group (He.ga K "group") fd
  a_group : mg "group" = some (.ref (He.ga K "group"))
  d_law : ∃ fd, FnP K "law" s_law (He.ga K "law") fd
  a_law : mg "law" = some (.ref (He.ga K "law"))
  z_range : mg "range" = none
  z_min : mg "min" = none
  z_len : mg "len" = none
  z_int : mg "int" = none
  z_tuple : mg "tuple" = none
  z_sorted : mg "sorted" = none
  z_isinstance : mg "isinstance" = none
  z_reversed : mg "reversed" = none
  z_list : mg "list" = none
  z_zip : mg "zip" = none
  z_sum : mg "sum" = none
  z_max : mg "max" = none
theorem bo_min : bootBuiltins "min" = some (.builtin "min") := by decide +kernel
theorem bo_len : bootBuiltins "len" = some (.builtin "len") := by decide +kernel
theorem bo_int : bootBuiltins "int" = some (.type "int") := by decide +kernel
theorem bo_tuple : bootBuiltins "tuple" = some (.type "tuple") := by decide +kernel
theorem bo_sorted : bootBuiltins "sorted" = some (.builtin "sorted") := by decide +kernel
theorem bo_isinstance : bootBuiltins "isinstance" = some (.builtin "isinstance") := by decide +kernel
theorem bo_list : bootBuiltins "list" = some (.type "list") := by decide +kernel
theorem bo_sum : bootBuiltins "sum" = some (.builtin "sum") := by decide +kernel
theorem bo_max : bootBuiltins "max" = some (.builtin "max") := by decide +kernel
section
variable {P : Program} {w : World} {K : PySem.W.Frag} {mg : Str → Option Value} {base : Heap}
theorem q_u_law_mix (T : Txt K mg) (cdv : Value) (A : Around) (outer : List Env) (s : Shared) (H : Hp) (E : XK) (hr : Room 0 (A.deeper (envOfC "_law_mix" (defScope s_u_law_mix) s.heap.objs.size (He.ga K "_law_mix") cdv))) : QSs (cxOf (L2.CX P w) P w K mg base N_u_law_mix "_law_mix" (defScope s_u_law_mix) (He.ga K "_law_mix") cdv A outer s H E) (fun cls d _ H => E cls d H) (defBody s_u_law_mix) b_u_law_mix := by
  have tk := takes_of (X := (cxOf (L2.CX P w) P w K mg base N_u_law_mix "_law_mix" (defScope s_u_law_mix) (He.ga K "_law_mix") cdv A outer s H E)) (E := E) rfl rfl rfl rfl
  have hp := passes_of (X := (cxOf (L2.CX P w) P w K mg base N_u_law_mix "_law_mix" (defScope s_u_law_mix) (He.ga K "_law_mix") cdv A outer s H E)) rfl
  have nd := sc_u_law_mix.nd
  exact (qss_cons (qs_set (i := 2) nd (qe_op op_modG (qe_callTy call_toIntG rfl T.z_int bo_int (qa_cons (qe_op op_addG (qe_op op_addG (qe_op op_mulG (qe_var (i := 0)) qe_int) (qe_op op_mulG (qe_var (i := 1)) qe_int)) qe_int) qa_nil)) qe_int))
      (qss_one (qs_ret (qe_op op_modG (qe_op op_modG (qe_callTy call_toIntG rfl T.z_int bo_int (qa_cons (qe_op op_addG (qe_op op_addG (qe_op op_addG (qe_op op_mulG (qe_var (i := 2)) (qe_var (i := 2))) (qe_op op_mulG (qe_var (i := 0)) qe_int)) (qe_op op_mulG (qe_var (i := 1)) qe_int)) qe_int) qa_nil)) qe_int) qe_int))))
theorem ok_u_law_mix (T : Txt K mg) : FnM P w K mg base 1 "_law_mix" P_u_law_mix m_u_law_mix := fnM_mk (N := N_u_law_mix) T.d_u_law_mix T.a_u_law_mix sc_u_law_mix (fun _ _ _ _ _ _ us hl => match us, hl with | [_, _], _ => rfl) (q_u_law_mix T)

theorem q_u_law_stream (T : Txt K mg) (cdv : Value) (A : Around) (outer : List Env) (s : Shared) (H : Hp) (E : XK) (hr : Room 1 (A.deeper (envOfC "_law_stream" (defScope s_u_law_stream) s.heap.objs.size (He.ga K "_law_stream") cdv))) : QSs (cxOf (L2.CX P w) P w K mg base N_u_law_stream "_law_stream" (defScope s_u_law_stream) (He.ga K "_law_stream") cdv A outer s H E) (fun cls d _ H => E cls d H) (defBody s_u_law_stream) b_u_law_stream := by
  have tk := takes_of (X := (cxOf (L2.CX P w) P w K mg base N_u_law_stream "_law_stream" (defScope s_u_law_stream) (He.ga K "_law_stream") cdv A outer s H E)) (E := E) rfl rfl rfl rfl
  have hp := passes_of (X := (cxOf (L2.CX P w) P w K mg base N_u_law_stream "_law_stream" (defScope s_u_law_stream) (He.ga K "_law_stream") cdv A outer s H E)) rfl
  have nd := sc_u_law_stream.nd
  exact (qss_cons (qs_set (i := 2) nd (qe_lst qa_nil))
      (qss_cons (qs_for (ms := L_u_law_stream_1) hp rfl (qi_range1 rfl T.z_range (qa_cons (qe_callB (call_minL rfl) rfl T.z_min bo_min (qa_cons (qe_callB call_lenG rfl T.z_len bo_len (qa_cons (qe_var (i := 0)) qa_nil)) (qa_cons qe_int qa_nil))) qa_nil)) (qg_name nd) (qss_cons (qs_set (i := 4) nd (qe_subH (hu_of hr) (qe_var (i := 0)) (qe_var (i := 3))))
      (qss_one (qs_if (qt_cmp op_geG (qe_var (i := 4)) (qe_op op_powG qe_int qe_int)) (qss_one (qs_for (ms := L_u_law_stream_2) hp rfl (qi_range1 rfl T.z_range (qa_cons qe_int qa_nil)) (qg_name nd) (qss_one (qs_if (qt_w (qw_and (qt_cmp op_gtG (qe_var (i := 4)) qe_int) (qw_one (qt_cmp op_ltG (qe_callB call_lenG rfl T.z_len bo_len (qa_cons (qe_var (i := 2)) qa_nil)) (qe_var (i := 1)))))) (qss_cons (qs_drop (qe_bm PySem.F.plainAttrs_list PySem.F.slot_list_append PySem.F.type_list_append mt_appendG (qe_var (i := 2)) (qa_cons (qe_op op_modG (qe_callTy call_toIntG rfl T.z_int bo_int (qa_cons (qe_var (i := 4)) qa_nil)) qe_int) qa_nil)))
      (qss_one (qs_set (i := 4) nd (qe_op op_fdivG (qe_var (i := 4)) qe_int)))) qss_nil)))) (qss_one (qs_for (ms := L_u_law_stream_3) hp rfl (qi_range1 rfl T.z_range (qa_cons qe_int qa_nil)) (qg_name nd) (qss_one (qs_if (qt_cmp op_ltG (qe_callB call_lenG rfl T.z_len bo_len (qa_cons (qe_var (i := 2)) qa_nil)) (qe_var (i := 1))) (qss_one (qs_drop (qe_bm PySem.F.plainAttrs_list PySem.F.slot_list_append PySem.F.type_list_append mt_appendG (qe_var (i := 2)) (qa_cons (qf (ok_u_law_mix T) tk (hr.mono (by decide)) rfl rfl (qa_cons (qe_var (i := 4)) (qa_cons (qe_op op_addG (qe_op op_mulG qe_int (qe_var (i := 5))) (qe_var (i := 3))) qa_nil)) (len_cons (len_cons len_nil))) qa_nil)))) qss_nil))))))))
      (qss_one (qs_ret (qe_disp (qp_cons qe_str (qe_var (i := 2)) (qp_cons qe_str qe_int (qp_cons qe_str (qe_callB call_lenG rfl T.z_len bo_len (qa_cons (qe_var (i := 2)) qa_nil)) qp_nil))))))))
theorem ok_u_law_stream (T : Txt K mg) : FnM P w K mg base 2 "_law_stream" P_u_law_stream m_u_law_stream := fnM_mk (N := N_u_law_stream) T.d_u_law_stream T.a_u_law_stream sc_u_law_stream (fun _ _ _ _ _ _ us hl => match us, hl with | [_, _], _ => rfl) (q_u_law_stream T)

theorem q_u_law_pick (T : Txt K mg) (cdv : Value) (A : Around) (outer : List Env) (s : Shared) (H : Hp) (E : XK) (hr : Room 1 (A.deeper (envOfC "_law_pick" (defScope s_u_law_pick) s.heap.objs.size (He.ga K "_law_pick") cdv))) : QSs (cxOf (L2.CX P w) P w K mg base N_u_law_pick "_law_pick" (defScope s_u_law_pick) (He.ga K "_law_pick") cdv A outer s H E) (fun cls d _ H => E cls d H) (defBody s_u_law_pick) b_u_law_pick := by
  have tk := takes_of (X := (cxOf (L2.CX P w) P w K mg base N_u_law_pick "_law_pick" (defScope s_u_law_pick) (He.ga K "_law_pick") cdv A outer s H E)) (E := E) rfl rfl rfl rfl
  have hp := passes_of (X := (cxOf (L2.CX P w) P w K mg base N_u_law_pick "_law_pick" (defScope s_u_law_pick) (He.ga K "_law_pick") cdv A outer s H E)) rfl
  have nd := sc_u_law_pick.nd
  exact (qss_cons (qs_set (i := 2) nd (qe_subH (hu_of hr) (qe_var (i := 0)) qe_str))
      (qss_cons (qs_putD (hu_of hr) (qe_op op_addG (qe_var (i := 2)) qe_int) (qe_var (i := 0)) qe_str)
      (qss_cons (qs_set (i := 3) nd (qf (ok_u_law_mix T) tk (hr.mono (by decide)) rfl rfl (qa_cons (qe_subH (hu_of hr) (qe_var (i := 0)) qe_str) (qa_cons (qe_var (i := 2)) qa_nil)) (len_cons (len_cons len_nil))))
      (qss_cons (qs_if (qt_cmp op_ltG (qe_var (i := 2)) (qe_callB call_lenG rfl T.z_len bo_len (qa_cons (qe_subH (hu_of hr) (qe_var (i := 0)) qe_str) qa_nil))) (qss_one (qs_set (i := 3) nd (qe_subH (hu_of hr) (qe_subH (hu_of hr) (qe_var (i := 0)) qe_str) (qe_var (i := 2))))) qss_nil)
      (qss_one (qs_ret (qe_op op_modG (qe_callTy call_toIntG rfl T.z_int bo_int (qa_cons (qe_var (i := 3)) qa_nil)) (qe_var (i := 1)))))))))
theorem ok_u_law_pick (T : Txt K mg) : FnM P w K mg base 2 "_law_pick" P_u_law_pick m_u_law_pick := fnM_mk (N := N_u_law_pick) T.d_u_law_pick T.a_u_law_pick sc_u_law_pick (fun _ _ _ _ _ _ us hl => match us, hl with | [_, _], _ => rfl) (q_u_law_pick T)

theorem q_u_law_value (T : Txt K mg) (cdv : Value) (A : Around) (outer : List Env) (s : Shared) (H : Hp) (E : XK) (hr : Room 2 (A.deeper (envOfC "_law_value" (defScope s_u_law_value) s.heap.objs.size (He.ga K "_law_value") cdv))) : QSs (cxOf (L2.CX P w) P w K mg base N_u_law_value "_law_value" (defScope s_u_law_value) (He.ga K "_law_value") cdv A outer s H E) (fun cls d _ H => E cls d H) (defBody s_u_law_value) b_u_law_value := by
  have tk := takes_of (X := (cxOf (L2.CX P w) P w K mg base N_u_law_value "_law_value" (defScope s_u_law_value) (He.ga K "_law_value") cdv A outer s H E)) (E := E) rfl rfl rfl rfl
  have hp := passes_of (X := (cxOf (L2.CX P w) P w K mg base N_u_law_value "_law_value" (defScope s_u_law_value) (He.ga K "_law_value") cdv A outer s H E)) rfl
  have nd := sc_u_law_value.nd
  exact (qss_cons (qs_if (qt_cmp (op_eqG hr.units) (qe_var (i := 1)) qe_str) (qss_one (qs_ret (qe_subH (hu_of hr) (qe_lst (qa_cons qe_str (qa_cons qe_str (qa_cons qe_str qa_nil)))) (qf (ok_u_law_pick T) tk (hr.mono (by decide)) rfl rfl (qa_cons (qe_var (i := 0)) (qa_cons qe_int qa_nil)) (len_cons (len_cons len_nil)))))) qss_nil)
      (qss_one (qs_ret (qe_subH (hu_of hr) (qe_lst (qa_cons qe_int (qa_cons qe_int (qa_cons qe_int (qa_cons (qe_un un_negG qe_int) (qa_cons qe_int qa_nil)))))) (qf (ok_u_law_pick T) tk (hr.mono (by decide)) rfl rfl (qa_cons (qe_var (i := 0)) (qa_cons qe_int qa_nil)) (len_cons (len_cons len_nil)))))))
theorem ok_u_law_value (T : Txt K mg) : FnM P w K mg base 3 "_law_value" P_u_law_value m_u_law_value := fnM_mk (N := N_u_law_value) T.d_u_law_value T.a_u_law_value sc_u_law_value (fun _ _ _ _ _ _ us hl => match us, hl with | [_, _], _ => rfl) (q_u_law_value T)

theorem q_order_of (T : Txt K mg) (cdv : Value) (A : Around) (outer : List Env) (s : Shared) (H : Hp) (E : XK) (hr : Room 0 (A.deeper (envOfC "order_of" (defScope s_order_of) s.heap.objs.size (He.ga K "order_of") cdv))) : QSs (cxOf (L2.CX P w) P w K mg base N_order_of "order_of" (defScope s_order_of) (He.ga K "order_of") cdv A outer s H E) (fun cls d _ H => E cls d H) (defBody s_order_of) b_order_of := by
  have tk := takes_of (X := (cxOf (L2.CX P w) P w K mg base N_order_of "order_of" (defScope s_order_of) (He.ga K "order_of") cdv A outer s H E)) (E := E) rfl rfl rfl rfl
  have hp := passes_of (X := (cxOf (L2.CX P w) P w K mg base N_order_of "order_of" (defScope s_order_of) (He.ga K "order_of") cdv A outer s H E)) rfl
  have nd := sc_order_of.nd
  exact (qss_one (qs_ret (qe_ifExp (qt_val (qe_callB call_isiG rfl T.z_isinstance bo_isinstance (qa_cons (qe_var (i := 0)) (qa_cons (qe_ty rfl T.z_int bo_int) qa_nil)))) (qe_tup (qa_cons qe_int (qa_cons (qe_var (i := 0)) qa_nil))) (qe_tup (qa_cons qe_int (qa_cons (qe_var (i := 0)) qa_nil))))))
theorem ok_order_of (T : Txt K mg) : FnM P w K mg base 1 "order_of" P_order_of m_order_of := fnM_mk (N := N_order_of) T.d_order_of T.a_order_of sc_order_of (fun _ _ _ _ _ _ us hl => match us, hl with | [_], _ => rfl) (q_order_of T)

theorem q_u_order_of_row (T : Txt K mg) (cdv : Value) (A : Around) (outer : List Env) (s : Shared) (H : Hp) (E : XK) (hr : Room 1 (A.deeper (envOfC "_order_of_row" (defScope s_u_order_of_row) s.heap.objs.size (He.ga K "_order_of_row") cdv))) : QSs (cxOf (L2.CX P w) P w K mg base N_u_order_of_row "_order_of_row" (defScope s_u_order_of_row) (He.ga K "_order_of_row") cdv A outer s H E) (fun cls d _ H => E cls d H) (defBody s_u_order_of_row) b_u_order_of_row := by
  have tk := takes_of (X := (cxOf (L2.CX P w) P w K mg base N_u_order_of_row "_order_of_row" (defScope s_u_order_of_row) (He.ga K "_order_of_row") cdv A outer s H E)) (E := E) rfl rfl rfl rfl
  have hp := passes_of (X := (cxOf (L2.CX P w) P w K mg base N_u_order_of_row "_order_of_row" (defScope s_u_order_of_row) (He.ga K "_order_of_row") cdv A outer s H E)) rfl
  have nd := sc_u_order_of_row.nd
  exact (qss_one (qs_ret (qe_lcG (own := [("value", 1)]) (.one 1) rfl nd (qi_any (qe_var (i := 0))) (blkOk_by (N := N_u_order_of_row) (sc := defScope s_u_order_of_row) (by decide +kernel)) rfl (fun _ _ _ _ _ => (pg_name (i := 1) nd rfl (by first | exact Or.inl rfl | exact Or.inr rfl | exact Or.inr (Or.inl rfl)))) (fun _ _ _ _ _ => qts_nil) (fun _ _ _ _ _ => (qf (ok_order_of T) takes0 (hr.mono (by decide)) rfl rfl (qa_cons (qe_var (i := 1)) qa_nil) (len_cons len_nil))))))
theorem ok_u_order_of_row (T : Txt K mg) : FnM P w K mg base 2 "_order_of_row" P_u_order_of_row m_u_order_of_row := fnM_mk (N := N_u_order_of_row) T.d_u_order_of_row T.a_u_order_of_row sc_u_order_of_row (fun _ _ _ _ _ _ us hl => match us, hl with | [_], _ => rfl) (q_u_order_of_row T)

theorem q_rows_in_order (T : Txt K mg) (cdv : Value) (A : Around) (outer : List Env) (s : Shared) (H : Hp) (E : XK) (hr : Room 4 (A.deeper (envOfC "rows_in_order" (defScope s_rows_in_order) s.heap.objs.size (He.ga K "rows_in_order") cdv))) : QSs (cxOf (L2.CX P w) P w K mg base N_rows_in_order "rows_in_order" (defScope s_rows_in_order) (He.ga K "rows_in_order") cdv A outer s H E) (fun cls d _ H => E cls d H) (defBody s_rows_in_order) b_rows_in_order := by
  have tk := takes_of (X := (cxOf (L2.CX P w) P w K mg base N_rows_in_order "rows_in_order" (defScope s_rows_in_order) (He.ga K "rows_in_order") cdv A outer s H E)) (E := E) rfl rfl rfl rfl
  have hp := passes_of (X := (cxOf (L2.CX P w) P w K mg base N_rows_in_order "rows_in_order" (defScope s_rows_in_order) (He.ga K "rows_in_order") cdv A outer s H E)) rfl
  have nd := sc_rows_in_order.nd
  exact (qss_cons (qs_setDc (i := 1) (y := "different") (own := [("row", 2)]) (.one 2) true (hu_of hr) rfl nd rfl rfl (sw_trueD rfl rfl rfl (by decide +kernel)) (qi_any (qe_var (i := 0))) (blkOk_by (N := N_rows_in_order) (sc := defScope s_rows_in_order) (by decide +kernel)) rfl (fun _ _ _ _ _ => (pg_name (i := 2) nd rfl (by first | exact Or.inl rfl | exact Or.inr rfl | exact Or.inr (Or.inl rfl)))) (fun _ _ _ _ _ => qts_nil) (fun _ _ _ _ _ => (qe_var (i := 2))) (fun _ _ _ _ _ => qe_bl))
      (qss_one (qs_ret (qe_callTy call_toTupG rfl T.z_tuple bo_tuple (qa_cons (qe_srtK (ok_u_order_of_row T) (hr.mono (by decide)) rfl rfl rfl T.z_sorted rfl (qe_var (i := 1))) qa_nil)))))
theorem ok_rows_in_order (T : Txt K mg) : FnM P w K mg base 5 "rows_in_order" P_rows_in_order m_rows_in_order := fnM_mk (N := N_rows_in_order) T.d_rows_in_order T.a_rows_in_order sc_rows_in_order (fun _ _ _ _ _ _ us hl => match us, hl with | [_], _ => rfl) (q_rows_in_order T)

theorem q_u_values_in (T : Txt K mg) (cdv : Value) (A : Around) (outer : List Env) (s : Shared) (H : Hp) (E : XK) (hr : Room 0 (A.deeper (envOfC "_values_in" (defScope s_u_values_in) s.heap.objs.size (He.ga K "_values_in") cdv))) : QSs (cxOf (L2.CX P w) P w K mg base N_u_values_in "_values_in" (defScope s_u_values_in) (He.ga K "_values_in") cdv A outer s H E) (fun cls d _ H => E cls d H) (defBody s_u_values_in) b_u_values_in := by
  have tk := takes_of (X := (cxOf (L2.CX P w) P w K mg base N_u_values_in "_values_in" (defScope s_u_values_in) (He.ga K "_values_in") cdv A outer s H E)) (E := E) rfl rfl rfl rfl
  have hp := passes_of (X := (cxOf (L2.CX P w) P w K mg base N_u_values_in "_values_in" (defScope s_u_values_in) (He.ga K "_values_in") cdv A outer s H E)) rfl
  have nd := sc_u_values_in.nd
  exact (qss_cons (qs_asg (qe_var (i := 0)) (qg_tup rfl (qgs_cons (qg_name nd) (qgs_cons (qg_name nd) qgs_nil))))
      (qss_cons (qs_set (i := 4) nd (qe_lcG (own := [("column", 5)]) (.one 5) rfl nd (qi_any (qe_var (i := 1))) (blkOk_by (N := N_u_values_in) (sc := defScope s_u_values_in) (by decide +kernel)) rfl (fun _ _ _ _ _ => (pg_name (i := 5) nd rfl (by first | exact Or.inl rfl | exact Or.inr rfl | exact Or.inr (Or.inl rfl)))) (fun _ _ _ _ _ => qts_nil) (fun _ _ _ _ _ => (qe_idx (qe_var (i := 2)) (qa_cons (qe_var (i := 5)) qa_nil)))))
      (qss_one (qs_ret (qe_lcG (own := [("row", 7)]) (.one 7) rfl nd (qi_any (qe_var (i := 3))) (blkOk_by (N := N_u_values_in) (sc := defScope s_u_values_in) (by decide +kernel)) rfl (fun _ _ _ _ _ => (pg_name (i := 7) nd rfl (by first | exact Or.inl rfl | exact Or.inr rfl | exact Or.inr (Or.inl rfl)))) (fun _ _ _ _ _ => qts_nil) (fun _ _ _ _ _ => (qe_callTy call_toTupG rfl T.z_tuple bo_tuple (qa_cons (qe_lcG (own := [("place", 6)]) (.one 6) rfl nd (qi_any (qe_var (i := 4))) (blkOk_by (by kernel_rfl)) rfl (fun _ _ _ _ _ => (pg_name (i := 6) nd rfl (by first | exact Or.inl rfl | exact Or.inr rfl | exact Or.inr (Or.inl rfl)))) (fun _ _ _ _ _ => qts_nil) (fun _ _ _ _ _ => (qe_subH (hu_of hr) (qe_var (i := 7)) (qe_var (i := 6))))) qa_nil))))))))
theorem ok_u_values_in (T : Txt K mg) : FnM P w K mg base 1 "_values_in" P_u_values_in m_u_values_in := fnM_mk (N := N_u_values_in) T.d_u_values_in T.a_u_values_in sc_u_values_in (fun _ _ _ _ _ _ us hl => match us, hl with | [_, _], _ => rfl) (q_u_values_in T)

theorem q_make_table (T : Txt K mg) (cdv : Value) (A : Around) (outer : List Env) (s : Shared) (H : Hp) (E : XK) (hr : Room 5 (A.deeper (envOfC "make_table" (defScope s_make_table) s.heap.objs.size (He.ga K "make_table") cdv))) : QSs (cxOf (L2.CX P w) P w K mg base N_make_table "make_table" (defScope s_make_table) (He.ga K "make_table") cdv A outer s H E) (fun cls d _ H => E cls d H) (defBody s_make_table) b_make_table := by
  have tk := takes_of (X := (cxOf (L2.CX P w) P w K mg base N_make_table "make_table" (defScope s_make_table) (He.ga K "make_table") cdv A outer s H E)) (E := E) rfl rfl rfl rfl
  have hp := passes_of (X := (cxOf (L2.CX P w) P w K mg base N_make_table "make_table" (defScope s_make_table) (He.ga K "make_table") cdv A outer s H E)) rfl
  have nd := sc_make_table.nd
  exact (qss_cons (qs_set (i := 2) nd (qe_callTy call_toTupF rfl T.z_tuple bo_tuple (qa_cons (qe_callB (call_srtG rfl hr.units) rfl T.z_sorted bo_sorted (qa_cons (qe_var (i := 0)) qa_nil)) qa_nil)))
      (qss_one (qs_ret (qe_tup (qa_cons (qe_var (i := 2)) (qa_cons (qf (ok_rows_in_order T) tk (hr.mono (by decide)) rfl rfl (qa_cons (qf (ok_u_values_in T) tk (hr.mono (by decide)) rfl rfl (qa_cons (qe_tup (qa_cons (qe_var (i := 0)) (qa_cons (qe_var (i := 1)) qa_nil))) (qa_cons (qe_var (i := 2)) qa_nil)) (len_cons (len_cons len_nil))) qa_nil) (len_cons len_nil)) qa_nil))))))
theorem ok_make_table (T : Txt K mg) : FnM P w K mg base 6 "make_table" P_make_table m_make_table := fnM_mk (N := N_make_table) T.d_make_table T.a_make_table sc_make_table (fun _ _ _ _ _ _ us hl => match us, hl with | [_, _], _ => rfl) (q_make_table T)

theorem q_u_law_worked (T : Txt K mg) (cdv : Value) (A : Around) (outer : List Env) (s : Shared) (H : Hp) (E : XK) (hr : Room 0 (A.deeper (envOfC "_law_worked" (defScope s_u_law_worked) s.heap.objs.size (He.ga K "_law_worked") cdv))) : QSs (cxOf (L2.CX P w) P w K mg base N_u_law_worked "_law_worked" (defScope s_u_law_worked) (He.ga K "_law_worked") cdv A outer s H E) (fun cls d _ H => E cls d H) (defBody s_u_law_worked) b_u_law_worked := by
  have tk := takes_of (X := (cxOf (L2.CX P w) P w K mg base N_u_law_worked "_law_worked" (defScope s_u_law_worked) (He.ga K "_law_worked") cdv A outer s H E)) (E := E) rfl rfl rfl rfl
  have hp := passes_of (X := (cxOf (L2.CX P w) P w K mg base N_u_law_worked "_law_worked" (defScope s_u_law_worked) (He.ga K "_law_worked") cdv A outer s H E)) rfl
  have nd := sc_u_law_worked.nd
  exact (qss_cons (qs_set (i := 2) nd (qe_subH (hu_of hr) (qe_var (i := 1)) qe_int))
      (qss_cons (qs_set (i := 3) nd (qe_subH (hu_of hr) (qe_var (i := 1)) qe_int))
      (qss_cons (qs_set (i := 4) nd qe_int)
      (qss_cons (qs_for (ms := L_u_law_worked_1) hp rfl (qi_any (qe_var (i := 1))) (qg_name nd) (qss_cons (qs_set (i := 4) nd (qe_op op_addG (qe_var (i := 4)) (qe_var (i := 5))))
      (qss_cons (qs_if (qt_cmp op_ltG (qe_var (i := 5)) (qe_var (i := 2))) (qss_one (qs_set (i := 2) nd (qe_var (i := 5)))) qss_nil)
      (qss_one (qs_if (qt_cmp op_gtG (qe_var (i := 5)) (qe_var (i := 3))) (qss_one (qs_set (i := 3) nd (qe_var (i := 5)))) qss_nil)))))
      (qss_one (qs_ret (qe_subH (hu_of hr) (qe_disp (qp_cons qe_str (qe_callB call_lenG rfl T.z_len bo_len (qa_cons (qe_var (i := 1)) qa_nil)) (qp_cons qe_str (qe_var (i := 4)) (qp_cons qe_str (qe_var (i := 2)) (qp_cons qe_str (qe_var (i := 3)) qp_nil))))) (qe_var (i := 0)))))))))
theorem ok_u_law_worked (T : Txt K mg) : FnM P w K mg base 1 "_law_worked" P_u_law_worked m_u_law_worked := fnM_mk (N := N_u_law_worked) T.d_u_law_worked T.a_u_law_worked sc_u_law_worked (fun _ _ _ _ _ _ us hl => match us, hl with | [_, _], _ => rfl) (q_u_law_worked T)

theorem q_u_law_due (T : Txt K mg) (cdv : Value) (A : Around) (outer : List Env) (s : Shared) (H : Hp) (E : XK) (hr : Room 6 (A.deeper (envOfC "_law_due" (defScope s_u_law_due) s.heap.objs.size (He.ga K "_law_due") cdv))) : QSs (cxOf (L2.CX P w) P w K mg base N_u_law_due "_law_due" (defScope s_u_law_due) (He.ga K "_law_due") cdv A outer s H E) (fun cls d _ H => E cls d H) (defBody s_u_law_due) b_u_law_due := by
  have tk := takes_of (X := (cxOf (L2.CX P w) P w K mg base N_u_law_due "_law_due" (defScope s_u_law_due) (He.ga K "_law_due") cdv A outer s H E)) (E := E) rfl rfl rfl rfl
  have hp := passes_of (X := (cxOf (L2.CX P w) P w K mg base N_u_law_due "_law_due" (defScope s_u_law_due) (He.ga K "_law_due") cdv A outer s H E)) rfl
  have nd := sc_u_law_due.nd
  exact (qss_cons (qs_set (i := 6) nd (qe_lst qa_nil))
      (qss_cons (qs_for (ms := L_u_law_due_1) hp rfl (qi_any (qe_var (i := 1))) (qg_name nd) (qss_cons (qs_set (i := 8) nd (qe_callTy call_toTupG rfl T.z_tuple bo_tuple (qa_cons (qe_lcG (own := [("one", 9)]) (.one 9) rfl nd (qi_any (qe_var (i := 5))) (blkOk_by (N := N_u_law_due) (sc := defScope s_u_law_due) (by decide +kernel)) rfl (fun _ _ _ _ _ => (pg_name (i := 9) nd rfl (by first | exact Or.inl rfl | exact Or.inr rfl | exact Or.inr (Or.inl rfl)))) (fun _ _ _ _ _ => qts_nil) (fun _ _ _ _ _ => (qe_subH (hu_of hr) (qe_var (i := 7)) (qe_idx (qe_var (i := 0)) (qa_cons (qe_var (i := 9)) qa_nil))))) qa_nil)))
      (qss_one (qs_if (qt_cmp (op_ninH (hu65 hr)) (qe_var (i := 8)) (qe_var (i := 6))) (qss_one (qs_drop (qe_bm PySem.F.plainAttrs_list PySem.F.slot_list_append PySem.F.type_list_append mt_appendG (qe_var (i := 6)) (qa_cons (qe_var (i := 8)) qa_nil)))) qss_nil))))
      (qss_cons (qs_set (i := 10) nd (qe_lst qa_nil))
      (qss_cons (qs_for (ms := L_u_law_due_2) hp rfl (qi_any (qe_var (i := 6))) (qg_name nd) (qss_cons (qs_setLcG (i := 11) (y := "mine") (own := [("row", 7)]) (.one 7) rfl nd rfl rfl (sw_true rfl rfl rfl (by decide +kernel)) (qi_any (qe_var (i := 1))) (blkOk_by (N := N_u_law_due) (sc := defScope s_u_law_due) (by decide +kernel)) rfl (fun _ _ _ _ _ => (pg_name (i := 7) nd rfl (by first | exact Or.inl rfl | exact Or.inr rfl | exact Or.inr (Or.inl rfl)))) (fun _ _ _ _ _ => (qts_one (qt_cmp (op_eqG hr.units) (qe_callTy call_toTupG rfl T.z_tuple bo_tuple (qa_cons (qe_lcG (own := [("one", 9)]) (.one 9) rfl nd (qi_any (qe_var (i := 5))) (blkOk_by (by kernel_rfl)) rfl (fun _ _ _ _ _ => (pg_name (i := 9) nd rfl (by first | exact Or.inl rfl | exact Or.inr rfl | exact Or.inr (Or.inl rfl)))) (fun _ _ _ _ _ => qts_nil) (fun _ _ _ _ _ => (qe_subH (hu_of hr) (qe_var (i := 7)) (qe_idx (qe_var (i := 0)) (qa_cons (qe_var (i := 9)) qa_nil))))) qa_nil)) (qe_var (i := 8))))) (fun _ _ _ _ _ => (qe_var (i := 7))))
      (qss_cons (qs_set (i := 12) nd (qe_op op_mulL (qe_lst (qa_cons qe_int qa_nil)) (qe_callB call_lenG rfl T.z_len bo_len (qa_cons (qe_var (i := 11)) qa_nil))))
      (qss_cons (qs_if (qt_cmp op_isnG (qe_var (i := 4)) qe_non) (qss_one (qs_setLcG (i := 12) (y := "numbers") (own := [("row", 7)]) (.one 7) rfl nd rfl rfl (sw_true rfl rfl rfl (by decide +kernel)) (qi_any (qe_var (i := 11))) (blkOk_by (N := N_u_law_due) (sc := defScope s_u_law_due) (by decide +kernel)) rfl (fun _ _ _ _ _ => (pg_name (i := 7) nd rfl (by first | exact Or.inl rfl | exact Or.inr rfl | exact Or.inr (Or.inl rfl)))) (fun _ _ _ _ _ => qts_nil) (fun _ _ _ _ _ => (qe_subH (hu_of hr) (qe_var (i := 7)) (qe_idx (qe_var (i := 0)) (qa_cons (qe_var (i := 4)) qa_nil)))))) qss_nil)
      (qss_one (qs_drop (qe_bm PySem.F.plainAttrs_list PySem.F.slot_list_append PySem.F.type_list_append mt_appendG (qe_var (i := 10)) (qa_cons (qe_op op_catF (qe_var (i := 8)) (qe_tup (qa_cons (qf (ok_u_law_worked T) tk (hr.mono (by decide)) rfl rfl (qa_cons (qe_var (i := 3)) (qa_cons (qe_var (i := 12)) qa_nil)) (len_cons (len_cons len_nil))) qa_nil))) qa_nil))))))))
      (qss_one (qs_ret (qf (ok_make_table T) tk (hr.mono (by decide)) rfl rfl (qa_cons (qe_op op_catF (qe_var (i := 5)) (qe_tupF (qa_cons (qe_var (i := 2)) qa_nil))) (qa_cons (qe_var (i := 10)) qa_nil)) (len_cons (len_cons len_nil)))))))))
theorem ok_u_law_due (T : Txt K mg) : FnM P w K mg base 7 "_law_due" P_u_law_due m_u_law_due := fnM_mk (N := N_u_law_due) T.d_u_law_due T.a_u_law_due sc_u_law_due (fun _ _ _ _ _ _ us hl => match us, hl with | [_, _, _, _, _, _], _ => rfl) (q_u_law_due T)

theorem q_value_over (T : Txt K mg) (cdv : Value) (A : Around) (outer : List Env) (s : Shared) (H : Hp) (E : XK) (hr : Room 0 (A.deeper (envOfC "value_over" (defScope s_value_over) s.heap.objs.size (He.ga K "value_over") cdv))) : QSs (cxOf (L2.CX P w) P w K mg base N_value_over "value_over" (defScope s_value_over) (He.ga K "value_over") cdv A outer s H E) (fun cls d _ H => E cls d H) (defBody s_value_over) b_value_over := by
  have tk := takes_of (X := (cxOf (L2.CX P w) P w K mg base N_value_over "value_over" (defScope s_value_over) (He.ga K "value_over") cdv A outer s H E)) (E := E) rfl rfl rfl rfl
  have hp := passes_of (X := (cxOf (L2.CX P w) P w K mg base N_value_over "value_over" (defScope s_value_over) (He.ga K "value_over") cdv A outer s H E)) rfl
  have nd := sc_value_over.nd
  exact (qss_cons (qs_if (qt_cmp (op_eqG hr.units) (qe_var (i := 0)) qe_str) (qss_one (qs_ret (qe_callB call_lenG rfl T.z_len bo_len (qa_cons (qe_var (i := 1)) qa_nil)))) qss_nil)
      (qss_cons (qs_setLcG (i := 2) (y := "values") (own := [("row", 3)]) (.one 3) rfl nd rfl rfl (sw_true rfl rfl rfl (by decide +kernel)) (qi_any (qe_var (i := 1))) (blkOk_by (N := N_value_over) (sc := defScope s_value_over) (by decide +kernel)) rfl (fun _ _ _ _ _ => (pg_name (i := 3) nd rfl (by first | exact Or.inl rfl | exact Or.inr rfl | exact Or.inr (Or.inl rfl)))) (fun _ _ _ _ _ => qts_nil) (fun _ _ _ _ _ => (qe_subH (hu_of hr) (qe_var (i := 3)) qe_int)))
      (qss_cons (qs_if (qt_cmp (op_eqG hr.units) (qe_var (i := 0)) qe_str) (qss_one (qs_ret (qe_callB (call_sumL rfl) rfl T.z_sum bo_sum (qa_cons (qe_var (i := 2)) qa_nil)))) qss_nil)
      (qss_one (qs_ret (qe_ifExp (qt_cmp (op_eqG hr.units) (qe_var (i := 0)) qe_str) (qe_callB (call_minL rfl) rfl T.z_min bo_min (qa_cons (qe_var (i := 2)) qa_nil)) (qe_callB (call_maxL rfl) rfl T.z_max bo_max (qa_cons (qe_var (i := 2)) qa_nil))))))))
theorem ok_value_over (T : Txt K mg) : FnM P w K mg base 1 "value_over" P_value_over m_value_over := fnM_mk (N := N_value_over) T.d_value_over T.a_value_over sc_value_over (fun _ _ _ _ _ _ us hl => match us, hl with | [_, _], _ => rfl) (q_value_over T)

theorem q_group (T : Txt K mg) (cdv : Value) (A : Around) (outer : List Env) (s : Shared) (H : Hp) (E : XK) (hr : Room 6 (A.deeper (envOfC "group" (defScope s_group) s.heap.objs.size (He.ga K "group") cdv))) : QSs (cxOf (L2.CX P w) P w K mg base N_group "group" (defScope s_group) (He.ga K "group") cdv A outer s H E) (fun cls d _ H => E cls d H) (defBody s_group) b_group := by
  have tk := takes_of (X := (cxOf (L2.CX P w) P w K mg base N_group "group" (defScope s_group) (He.ga K "group") cdv A outer s H E)) (E := E) rfl rfl rfl rfl
  have hp := passes_of (X := (cxOf (L2.CX P w) P w K mg base N_group "group" (defScope s_group) (He.ga K "group") cdv A outer s H E)) rfl
  have nd := sc_group.nd
  exact (qss_cons (qs_set (i := 5) nd (qe_ifExp (qt_cmp op_isG (qe_var (i := 3)) qe_non) (qe_var (i := 4)) (qe_tup (qa_cons (qe_var (i := 3)) qa_nil))))
      (qss_cons (qs_set (i := 6) nd qe_dictT)
      (qss_cons (qs_for (ms := L_group_1) hp rfl (qi_zip rfl T.z_zip (qa_cons (qf (ok_u_values_in T) tk (hr.mono (by decide)) rfl rfl (qa_cons (qe_var (i := 0)) (qa_cons (qe_var (i := 4)) qa_nil)) (len_cons (len_cons len_nil))) (qa_cons (qf (ok_u_values_in T) tk (hr.mono (by decide)) rfl rfl (qa_cons (qe_var (i := 0)) (qa_cons (qe_var (i := 5)) qa_nil)) (len_cons (len_cons len_nil))) qa_nil))) (qg_tup rfl (qgs_cons (qg_name nd) (qgs_cons (qg_name nd) qgs_nil))) (qss_one (qs_drop (qe_bm PySem.F.plainAttrs_list PySem.F.slot_list_append PySem.F.type_list_append mt_appendG (qe_bm PySem.F.plainAttrs_dict PySem.F.slot_dict_setdefault PySem.F.type_dict_setdefault (mt_setdG (hu_of hr)) (qe_var (i := 6)) (qa_cons (qe_var (i := 7)) (qa_cons (qe_lst qa_nil) qa_nil))) (qa_cons (qe_var (i := 8)) qa_nil)))))
      (qss_one (qs_ret (qf (ok_make_table T) tk (hr.mono (by decide)) rfl rfl (qa_cons (qe_tupF (qa_star (qe_var (i := 4)) (qa_cons (qe_var (i := 1)) qa_nil))) (qa_cons (qe_lock (i := 6) (qe_lcG (own := [("key", 7), ("rows", 9)]) (.many [7, 9]) rfl nd (qi_items (qe_var (i := 6))) (blkOk_by (N := N_group) (sc := defScope s_group) (by decide +kernel)) rfl (fun _ _ _ _ _ => (pg_tup rfl (pgs_cons (pg_name (i := 7) nd rfl (by first | exact Or.inl rfl | exact Or.inr rfl | exact Or.inr (Or.inl rfl))) (pgs_cons (pg_name (i := 9) nd rfl (by first | exact Or.inl rfl | exact Or.inr rfl | exact Or.inr (Or.inl rfl))) pgs_nil)))) (fun _ _ _ _ _ => qts_nil) (fun _ _ _ _ _ => (qe_tup (qa_star (qe_var (i := 7)) (qa_cons (qf (ok_value_over T) takes0 (hr.mono (by decide)) rfl rfl (qa_cons (qe_var (i := 2)) (qa_cons (qe_var (i := 9)) qa_nil)) (len_cons (len_cons len_nil))) qa_nil)))))) qa_nil)) (len_cons (len_cons len_nil))))))))
theorem ok_group (T : Txt K mg) : FnM P w K mg base 7 "group" P_group m_group := fnM_mk (N := N_group) T.d_group T.a_group sc_group (fun _ _ _ _ _ _ us hl => match us, hl with | [_, _, _, _, _], _ => rfl) (q_group T)

theorem q_law (T : Txt K mg) (cdv : Value) (A : Around) (outer : List Env) (s : Shared) (H : Hp) (E : XK) (hr : Room 7 (A.deeper (envOfC "law" (defScope s_law) s.heap.objs.size (He.ga K "law") cdv))) : QSs (cxOf (L2.CX P w) P w K mg base N_law "law" (defScope s_law) (He.ga K "law") cdv A outer s H E) (fun cls d _ H => E cls d H) (defBody s_law) b_law := by
  have tk := takes_of (X := (cxOf (L2.CX P w) P w K mg base N_law "law" (defScope s_law) (He.ga K "law") cdv A outer s H E)) (E := E) rfl rfl rfl rfl
  have hp := passes_of (X := (cxOf (L2.CX P w) P w K mg base N_law "law" (defScope s_law) (He.ga K "law") cdv A outer s H E)) rfl
  have nd := sc_law.nd
  exact (qss_cons (qs_set (i := 1) nd (qf (ok_u_law_stream T) tk (hr.mono (by decide)) rfl rfl (qa_cons (qe_var (i := 0)) (qa_cons qe_int qa_nil)) (len_cons (len_cons len_nil))))
      (qss_cons (qs_for (ms := L_law_1) hp rfl (qi_range1 rfl T.z_range (qa_cons qe_int qa_nil)) (qg_name nd) (qss_cons (qs_set (i := 3) nd (qe_callTy call_toTupF rfl T.z_tuple bo_tuple (qa_cons (qe_slice sl_L (qe_lst (qa_cons qe_str (qa_cons qe_str (qa_cons qe_str qa_nil)))) (qo_some (qf (ok_u_law_pick T) tk (hr.mono (by decide)) rfl rfl (qa_cons (qe_var (i := 1)) (qa_cons qe_int qa_nil)) (len_cons (len_cons len_nil)))) qo_none) qa_nil)))
      (qss_cons (qs_set (i := 4) nd (qe_lst qa_nil))
      (qss_cons (qs_for (ms := L_law_2) hp rfl (qi_range1 rfl T.z_range (qa_cons (qf (ok_u_law_pick T) tk (hr.mono (by decide)) rfl rfl (qa_cons (qe_var (i := 1)) (qa_cons qe_int qa_nil)) (len_cons (len_cons len_nil))) qa_nil)) (qg_name nd) (qss_one (qs_drop (qe_bm PySem.F.plainAttrs_list PySem.F.slot_list_append PySem.F.type_list_append mt_appendG (qe_var (i := 4)) (qa_cons (qe_callTy call_toTupG rfl T.z_tuple bo_tuple (qa_cons (qe_lcG (own := [("name", 6)]) (.one 6) rfl nd (qi_any (qe_var (i := 3))) (blkOk_by (N := N_law) (sc := defScope s_law) (by decide +kernel)) rfl (fun _ _ _ _ _ => (pg_name (i := 6) nd rfl (by first | exact Or.inl rfl | exact Or.inr rfl | exact Or.inr (Or.inl rfl)))) (fun _ _ _ _ _ => qts_nil) (fun _ _ _ _ _ => (qf (ok_u_law_value T) takes0 (hr.mono (by decide)) rfl rfl (qa_cons (qe_var (i := 1)) (qa_cons (qe_var (i := 6)) qa_nil)) (len_cons (len_cons len_nil))))) qa_nil)) qa_nil)))))
      (qss_cons (qs_set (i := 7) nd (qf (ok_make_table T) tk (hr.mono (by decide)) rfl rfl (qa_cons (qe_var (i := 3)) (qa_cons (qe_var (i := 4)) qa_nil)) (len_cons (len_cons len_nil))))
      (qss_cons (qs_set (i := 8) nd (qe_callTy call_toTupF rfl T.z_tuple bo_tuple (qa_cons (qe_lcG (own := [("name", 6)]) (.one 6) rfl nd (qi_any (qe_var (i := 3))) (blkOk_by (N := N_law) (sc := defScope s_law) (by decide +kernel)) rfl (fun _ _ _ _ _ => (pg_name (i := 6) nd rfl (by first | exact Or.inl rfl | exact Or.inr rfl | exact Or.inr (Or.inl rfl)))) (fun _ _ _ _ _ => (qts_one (qt_cmp (op_eqG hr.units) (qf (ok_u_law_pick T) takes0 (hr.mono (by decide)) rfl rfl (qa_cons (qe_var (i := 1)) (qa_cons qe_int qa_nil)) (len_cons (len_cons len_nil))) qe_int))) (fun _ _ _ _ _ => (qe_var (i := 6)))) qa_nil)))
      (qss_cons (qs_if (qt_cmp (op_eqG hr.units) (qf (ok_u_law_pick T) tk (hr.mono (by decide)) rfl rfl (qa_cons (qe_var (i := 1)) (qa_cons qe_int qa_nil)) (len_cons (len_cons len_nil))) qe_int) (qss_one (qs_set (i := 8) nd (qe_tupRev rfl rfl T.z_tuple rfl T.z_reversed (qe_var (i := 8))))) qss_nil)
      (qss_one (qs_for (ms := L_law_3) hp rfl (qi_any (qe_lst (qa_cons qe_str (qa_cons qe_str (qa_cons qe_str (qa_cons qe_str qa_nil)))))) (qg_name nd) (qss_cons (qs_set (i := 10) nd qe_non)
      (qss_cons (qs_setLcG (i := 11) (y := "numbers") (own := [("name", 6)]) (.one 6) rfl nd rfl rfl (sw_true rfl rfl rfl (by decide +kernel)) (qi_any (qe_var (i := 3))) (blkOk_by (N := N_law) (sc := defScope s_law) (by decide +kernel)) rfl (fun _ _ _ _ _ => (pg_name (i := 6) nd rfl (by first | exact Or.inl rfl | exact Or.inr rfl | exact Or.inr (Or.inl rfl)))) (fun _ _ _ _ _ => (qts_one (qt_cmp (op_neG hr.units) (qe_var (i := 6)) qe_str))) (fun _ _ _ _ _ => (qe_var (i := 6))))
      (qss_cons (qs_if (qt_cmp (op_neG hr.units) (qe_var (i := 9)) qe_str) (qss_one (qs_set (i := 10) nd (qe_subH (hu_of hr) (qe_var (i := 11)) (qf (ok_u_law_pick T) tk (hr.mono (by decide)) rfl rfl (qa_cons (qe_var (i := 1)) (qa_cons (qe_callB call_lenG rfl T.z_len bo_len (qa_cons (qe_var (i := 11)) qa_nil)) qa_nil)) (len_cons (len_cons len_nil)))))) qss_nil)
      (qss_cons (qs_set (i := 12) nd (qf (ok_u_law_due T) tk (hr.mono (by decide)) rfl rfl (qa_cons (qe_var (i := 3)) (qa_cons (qe_callTy call_toLst rfl T.z_list bo_list (qa_cons (qe_subH (hu_of hr) (qe_var (i := 7)) qe_int) qa_nil)) (qa_cons (qe_subH (hu_of hr) (qe_lst (qa_cons qe_str (qa_cons qe_str (qa_cons qe_str qa_nil)))) (qe_op op_modG (qe_var (i := 2)) qe_int)) (qa_cons (qe_var (i := 9)) (qa_cons (qe_var (i := 10)) (qa_cons (qe_var (i := 8)) qa_nil)))))) (len_cons (len_cons (len_cons (len_cons (len_cons (len_cons len_nil))))))))
      (qss_one (qs_if (qt_cmp (op_neG hr.units) (qf (ok_group T) tk (hr.mono (by decide)) rfl rfl (qa_cons (qe_var (i := 7)) (qa_cons (qe_subH (hu_of hr) (qe_lst (qa_cons qe_str (qa_cons qe_str (qa_cons qe_str qa_nil)))) (qe_op op_modG (qe_var (i := 2)) qe_int)) (qa_cons (qe_var (i := 9)) (qa_cons (qe_var (i := 10)) (qa_cons (qe_var (i := 8)) qa_nil))))) (len_cons (len_cons (len_cons (len_cons (len_cons len_nil)))))) (qe_var (i := 12))) (qss_one (qs_ret qe_bl)) qss_nil)))))))))))))))
      (qss_one (qs_ret qe_bl))))
theorem ok_law (T : Txt K mg) : FnM P w K mg base 8 "law" P_law m_law := fnM_mk (N := N_law) T.d_law T.a_law sc_law (fun _ _ _ _ _ _ us hl => match us, hl with | [_], _ => rfl) (q_law T)

end

/-! the head: facts, the run -/
def dd_u_law_mix : He.DefD := ⟨("_law_mix", none), "_law_mix", "_law_mix", defArgs s_u_law_mix, defBody s_u_law_mix, defScope s_u_law_mix, [], []⟩
def dd_u_law_stream : He.DefD := ⟨("_law_stream", none), "_law_stream", "_law_stream", defArgs s_u_law_stream, defBody s_u_law_stream, defScope s_u_law_stream, [], []⟩
def dd_u_law_pick : He.DefD := ⟨("_law_pick", none), "_law_pick", "_law_pick", defArgs s_u_law_pick, defBody s_u_law_pick, defScope s_u_law_pick, [], []⟩
def dd_u_law_value : He.DefD := ⟨("_law_value", none), "_law_value", "_law_value", defArgs s_u_law_value, defBody s_u_law_value, defScope s_u_law_value, [], []⟩
def dd_order_of : He.DefD := ⟨("order_of", none), "order_of", "order_of", defArgs s_order_of, defBody s_order_of, defScope s_order_of, [], []⟩
def dd_u_order_of_row : He.DefD := ⟨("_order_of_row", none), "_order_of_row", "_order_of_row", defArgs s_u_order_of_row, defBody s_u_order_of_row, defScope s_u_order_of_row, [], []⟩
def dd_rows_in_order : He.DefD := ⟨("rows_in_order", none), "rows_in_order", "rows_in_order", defArgs s_rows_in_order, defBody s_rows_in_order, defScope s_rows_in_order, [], []⟩
def dd_u_values_in : He.DefD := ⟨("_values_in", none), "_values_in", "_values_in", defArgs s_u_values_in, defBody s_u_values_in, defScope s_u_values_in, [], []⟩
def dd_make_table : He.DefD := ⟨("make_table", none), "make_table", "make_table", defArgs s_make_table, defBody s_make_table, defScope s_make_table, [], []⟩
def dd_u_law_worked : He.DefD := ⟨("_law_worked", none), "_law_worked", "_law_worked", defArgs s_u_law_worked, defBody s_u_law_worked, defScope s_u_law_worked, [], []⟩
def dd_u_law_due : He.DefD := ⟨("_law_due", none), "_law_due", "_law_due", defArgs s_u_law_due, defBody s_u_law_due, defScope s_u_law_due, [], []⟩
def dd_value_over : He.DefD := ⟨("value_over", none), "value_over", "value_over", defArgs s_value_over, defBody s_value_over, defScope s_value_over, [], []⟩
def dd_group : He.DefD := ⟨("group", none), "group", "group", defArgs s_group, defBody s_group, defScope s_group, [], []⟩
def dd_law : He.DefD := ⟨("law", none), "law", "law", defArgs s_law, defBody s_law, defScope s_law, [], []⟩
def ff : List He.DefD := [dd_u_law_mix, dd_u_law_stream, dd_u_law_pick, dd_u_law_value, dd_order_of, dd_u_order_of_row, dd_rows_in_order, dd_u_values_in, dd_make_table, dd_u_law_worked, dd_u_law_due, dd_value_over, dd_group, dd_law]
def fa : List He.Fa := [.glo "_law_mix", .glo "_law_stream", .glo "_law_pick", .glo "_law_value", .glo "order_of", .glo "_order_of_row", .glo "rows_in_order", .glo "_values_in", .glo "make_table", .glo "_law_worked", .glo "_law_due", .glo "value_over", .glo "group", .glo "law", .free "range", .free "min", .free "len", .free "int", .free "tuple", .free "sorted", .free "isinstance", .free "reversed", .free "list", .free "zip", .free "sum", .free "max"]
def fc : List (Str × D) := []
/-- the names of the top but the law's -/
def loose : List Str := ["make_table", "rows_in_order", "group", "order_of", "_order_of_row", "_values_in", "value_over", "_law_mix", "_law_stream", "_law_pick", "_law_value", "_law_worked", "_law_due"]
def lawAt : Nat := 15
theorem txt {w : World} {K : PySem.W.Frag} {h : Heap} {mg : Str → Option Value} (X : K.In h) (G : h.Ns mainGlobals mg) (c : He.SaysX fa ff [] [] (fun K => fc.all (constB K)) w h K) : Txt K mg := ⟨by obtain ⟨fd, F⟩ := c.t.d.def_ 0 (d := dd_u_law_mix) rfl; exact ⟨fd, F⟩,
  He.glo_ok X G (c.t.d.fact 0 (f := .glo "_law_mix") rfl),
  by obtain ⟨fd, F⟩ := c.t.d.def_ 1 (d := dd_u_law_stream) rfl; exact ⟨fd, F⟩,
  He.glo_ok X G (c.t.d.fact 1 (f := .glo "_law_stream") rfl),
  by obtain ⟨fd, F⟩ := c.t.d.def_ 2 (d := dd_u_law_pick) rfl; exact ⟨fd, F⟩,
  He.glo_ok X G (c.t.d.fact 2 (f := .glo "_law_pick") rfl),
  by obtain ⟨fd, F⟩ := c.t.d.def_ 3 (d := dd_u_law_value) rfl; exact ⟨fd, F⟩,
  He.glo_ok X G (c.t.d.fact 3 (f := .glo "_law_value") rfl),
  by obtain ⟨fd, F⟩ := c.t.d.def_ 4 (d := dd_order_of) rfl; exact ⟨fd, F⟩,
  He.glo_ok X G (c.t.d.fact 4 (f := .glo "order_of") rfl),
  by obtain ⟨fd, F⟩ := c.t.d.def_ 5 (d := dd_u_order_of_row) rfl; exact ⟨fd, F⟩,
  He.glo_ok X G (c.t.d.fact 5 (f := .glo "_order_of_row") rfl),
  by obtain ⟨fd, F⟩ := c.t.d.def_ 6 (d := dd_rows_in_order) rfl; exact ⟨fd, F⟩,
  He.glo_ok X G (c.t.d.fact 6 (f := .glo "rows_in_order") rfl),
  by obtain ⟨fd, F⟩ := c.t.d.def_ 7 (d := dd_u_values_in) rfl; exact ⟨fd, F⟩,
  He.glo_ok X G (c.t.d.fact 7 (f := .glo "_values_in") rfl),
  by obtain ⟨fd, F⟩ := c.t.d.def_ 8 (d := dd_make_table) rfl; exact ⟨fd, F⟩,
  He.glo_ok X G (c.t.d.fact 8 (f := .glo "make_table") rfl),
  by obtain ⟨fd, F⟩ := c.t.d.def_ 9 (d := dd_u_law_worked) rfl; exact ⟨fd, F⟩,
  He.glo_ok X G (c.t.d.fact 9 (f := .glo "_law_worked") rfl),
  by obtain ⟨fd, F⟩ := c.t.d.def_ 10 (d := dd_u_law_due) rfl; exact ⟨fd, F⟩,
  He.glo_ok X G (c.t.d.fact 10 (f := .glo "_law_due") rfl),
  by obtain ⟨fd, F⟩ := c.t.d.def_ 11 (d := dd_value_over) rfl; exact ⟨fd, F⟩,
  He.glo_ok X G (c.t.d.fact 11 (f := .glo "value_over") rfl),
  by obtain ⟨fd, F⟩ := c.t.d.def_ 12 (d := dd_group) rfl; exact ⟨fd, F⟩,
  He.glo_ok X G (c.t.d.fact 12 (f := .glo "group") rfl),
  by obtain ⟨fd, F⟩ := c.t.d.def_ 13 (d := dd_law) rfl; exact ⟨fd, F⟩,
  He.glo_ok X G (c.t.d.fact 13 (f := .glo "law") rfl),
  He.free_ok X G (c.t.d.fact 14 (f := .free "range") rfl),
  He.free_ok X G (c.t.d.fact 15 (f := .free "min") rfl),
  He.free_ok X G (c.t.d.fact 16 (f := .free "len") rfl),
  He.free_ok X G (c.t.d.fact 17 (f := .free "int") rfl),
  He.free_ok X G (c.t.d.fact 18 (f := .free "tuple") rfl),
  He.free_ok X G (c.t.d.fact 19 (f := .free "sorted") rfl),
  He.free_ok X G (c.t.d.fact 20 (f := .free "isinstance") rfl),
  He.free_ok X G (c.t.d.fact 21 (f := .free "reversed") rfl),
  He.free_ok X G (c.t.d.fact 22 (f := .free "list") rfl),
  He.free_ok X G (c.t.d.fact 23 (f := .free "zip") rfl),
  He.free_ok X G (c.t.d.fact 24 (f := .free "sum") rfl),
  He.free_ok X G (c.t.d.fact 25 (f := .free "max") rfl)⟩
def lawLev : Nat := 8
end K21
end
section
set_option Elab.async false
set_option linter.all false
set_option maxRecDepth 100000
set_option maxHeartbeats 0
namespace K21
open PySem PySem.Spec PyProof.Rows L2 PM
abbrev R : PySem.W.OpenRow := PySem.W.OpenLaw.row PySem.Challenge.rw_sheetwatch_k21_groups
abbrev hk : PySem.W.Hook := He.hookX 4 fa ff [] [] (fun K => fc.all (constB K))
def ob (s : PySem.W.SharedT) : He.AlX := He.obsX 4 fa ff [] [] (fun K => fc.all (constB K)) (HandSHeadRun.getT s)
theorem ob_eq (s : PySem.W.SharedT) : ob s = hk.obs s.abs := He.obsX_eq (HandSHeadRun.getT_eq s)
theorem run (w : World) : HandSHeadRun.RunEq R (PySem.W.view R.prog [lawAt]) hk ob 4000 loose w := by
  intro os
  kernel_rfl
end K21
end
section
set_option Elab.async false
set_option linter.all false
set_option maxRecDepth 100000
set_option maxHeartbeats 0
open PySem PySem.W PySem.Calls PyProof.Rows
theorem K21.fin (main : ∀ ns : List Int, ns.length ≤ 63 → (∀ z ∈ ns, Builtin.Int.intBits z ≤ 1048576) → ∃ h', K21.m_law [.ref 0] [.rdl (ns.map PM.D.int)] = .ok (.bl true) h') : PySem.Challenge.rw_sheetwatch_k21_groups.Holds := by
  w_on; o_law
  refine HandSHeadRun.head_any (r := K21.R) (q := view K21.R.prog [K21.lawAt]) (H := K21.hk) (ob := K21.ob) (M := 4000) (loose := K21.loose) (d := HandSHeadRun.topDef K21.R.prog K21.lawAt) (kwd := []) K21.ob_eq
    (by kernel_rfl) (fun s => by kernel_rfl) K21.run (by kernel_rfl) (by kernel_rfl) (by kernel_rfl) (by rfl) (by first | assumption | decide +kernel) (by decide +kernel) ⟨rfl, rfl, rfl, rfl, rfl, by decide +kernel⟩ ?hw ?hc
  case hw => w_witness2
  case hc =>
    refine PM.walk_pm (l := PySem.Challenge.rw_sheetwatch_k21_groups) (k := K21.lawLev) (m := K21.m_law) rfl (by kernel_rfl) ⟨rfl, by decide, by decide⟩ ?F main
    intro w mg fa h Y G hmg0
    obtain ⟨K, KX, c⟩ := Y
    have hmg : mg ("law" : PySem.Str) = some (.ref fa) := by
      have e : (HandSHeadRun.topDef K21.R.prog K21.lawAt).name = ("law" : PySem.Str) := by kernel_rfl
      rw [← e]
      exact hmg0
    have T := K21.txt KX G c
    obtain ⟨fd, F⟩ := T.d_law
    have e := hmg.symm.trans T.a_law
    cases e
    exact ⟨K, fd, KX, fun s v => L2.FunD.bindsA (ps := ["script"]) F (fun _ _ _ _ _ _ us hl => match us, hl with | [_], _ => rfl) s [v] rfl, fun base => PM.fnOk_mk (N := K21.N_law) F K21.sc_law (K21.q_law T)⟩
end
theorem PySem.Challenge.cw_sheetwatch_k21_groups_holds : PySem.Challenge.rw_sheetwatch_k21_groups.Holds := by
  exact K21.fin fun ns h _ => K21.main ns h
