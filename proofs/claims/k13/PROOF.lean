import PyProof.Rows.All
import HandS.ForMost
import HandS.ForExc
import HandS.Iter
import HandS.CallSlots
import KE.GoesEnumKw
import PyProof.Rows.CallKwBuiltin
import HandS.StrMore
import HandS.IsInst
import HandS.Defaults
import HandS.Head0
import HandS.Head1
import HandS.Head2
import HandS.HeadEnd
import HandS.HeadHook1
import HandS.HeadHook2
import HandS.HeadHook3
import HandS.HeadHook4
import HandS.HeadWalk
import HandS.EndBits
import HandS.ExcInit
import HandS.Nested
import HandS.NestedK
import KE.KExcSuper
import HandS.FStr
import HandS.ExcField
import KE.KExcIs
import HandS.Star
import HandS.Zip
import HandS.Deep
import HandS.Strs
import PyProof.DictMoreH
import HandS.SetKeys
import HandS.DictTup
import HandS.DictComp
import KE.SortKeyHeap
import KE.KDictSum
import KE.KDictCopyH
import HandS.More
import HandS.SortKw
import HandS.Rev
import HandS.TupAny
import HandS.Text
import HandS.WordsDict
import HandS.TupMul
import PySem.Challenge.RW_sheetwatch_k13_kinds_of_names
import Wide.All
import Lean
section
set_option Elab.async false
set_option linter.all false
set_option maxRecDepth 100000
namespace PM
open PySem PySem.Spec PyProof.Rows L2

/-- a value of the plain layer: tuples stand in line, lists and dicts and instances by their place -/
inductive D where
  | non | bl (b : Bool) | int (i : Int) | str (x : Str) | tup (xs : List D) | stp (xs : List D) | ref (i : Nat) | fn (x : Str) | ty (n : String)

inductive Ob where
  | lst (xs : List D) | dic (kvs : List (Key × D)) | rdl (xs : List D) | ins (c : Str) (fs : List (Str × D))
  /-- a dict with tuple keys; a dict while it is walked -/
  | dit (kvs : List (List Key × D)) | rdd (kvs : List (Key × D)) | rdt (kvs : List (List Key × D))
def mu : Ob → Bool
  | .rdl _ => false
  | .rdd _ => false
  | .rdt _ => false
  | _ => true
/-- stands alone at its address -/
def uq : Ob → Bool
  | .rdl _ => false
  | _ => true
theorem mu_uq {o : Ob} (m : mu o = true) : uq o = true := by cases o <;> first | rfl | exact m
abbrev HP := List Ob
abbrev SD := List (Option D)

/-! ### extension of the places, keeping of the tuples -/
def Ext (r r' : List Addr) : Prop := ∃ l, r' = r ++ l
theorem Ext.refl (r : List Addr) : Ext r r := ⟨[], by simp⟩
theorem Ext.trans {a b c : List Addr} (h : Ext a b) (k : Ext b c) : Ext a c := by
  obtain ⟨l, rfl⟩ := h
  obtain ⟨m, rfl⟩ := k
  exact ⟨l ++ m, by simp⟩
theorem Ext.get {r r' : List Addr} (h : Ext r r') {i : Nat} {a : Addr} (e : r[i]? = some a) : r'[i]? = some a := by
  obtain ⟨l, rfl⟩ := h
  have hi : i < r.length := by
    rcases Nat.lt_or_ge i r.length with h | h
    · exact h
    · rw [List.getElem?_eq_none h] at e; cases e
  rw [List.getElem?_append_left hi]; exact e
theorem Ext.one (r : List Addr) (p : Addr) : Ext r (r ++ [p]) := ⟨[p], rfl⟩

structure Keep (H H' : Hp) : Prop where
  tup : ∀ a xs, H a = some (.tup xs) → H' a = some (.tup xs)
  frz : ∀ a o u, H a = some (.frz o u) → H' a = some (.frz o u)
  xd : ∀ a fs, H a = some (.xd fs) → H' a = some (.xd fs)
theorem Keep.refl (H : Hp) : Keep H H := ⟨fun _ _ e => e, fun _ _ _ e => e, fun _ _ e => e⟩
theorem Keep.trans {H H1 H2 : Hp} (a : Keep H H1) (b : Keep H1 H2) : Keep H H2 := ⟨fun x xs e => b.tup x xs (a.tup x xs e), fun x o u e => b.frz x o u (a.frz x o u e), fun x fs e => b.xd x fs (a.xd x fs e)⟩
theorem Keep.new {H : Hp} {p : Addr} {o : HO} (h : H p = none) : Keep H (upd H p o) :=
  ⟨fun a xs e => by rw [upd_ne (ne_of_none e h)]; exact e, fun a ob u e => by rw [upd_ne (ne_of_none e h)]; exact e, fun a fs e => by rw [upd_ne (ne_of_none e h)]; exact e⟩
theorem Keep.mut {H : Hp} {p : Addr} {o u : HO} (h : H p = some u) (ht : ∀ xs, u ≠ .tup xs) (hf : ∀ ob v, u ≠ .frz ob v) (hx : ∀ fs, u ≠ .xd fs) : Keep H (upd H p o) :=
  ⟨fun a xs e => by rw [upd_ne (ne_of e h (fun z => ht xs z.symm))]; exact e, fun a ob v e => by rw [upd_ne (ne_of e h (fun z => hf ob v z.symm))]; exact e, fun a fs e => by rw [upd_ne (ne_of e h (fun z => hx fs z.symm))]; exact e⟩
theorem Keep.sqT {K : PySem.W.Frag} {H H' : Hp} (k : Keep H H') {a : Addr} {xs : List V} (h : SqT K H a xs) : SqT K H' a xs := by
  rcases h with (h | ⟨o, h⟩) | h
  · exact .inl (.inl (k.tup a xs h))
  · exact .inl (.inr ⟨o, k.frz a o _ h⟩)
  · exact .inr h

/-- a tuple that is known as an object, without a dict of its own: read of methods, too -/
def FxT (K : PySem.W.Frag) (H : Hp) (a : Addr) (vs : List V) : Prop :=
  (∃ o, H a = some (.frz o (.tup vs)) ∧ o.dict = none) ∨ ∃ (o : Obj) (its : Array Value) (n : Nat), K.lookup a = some o ∧ o.cls = .type "tuple" ∧ o.data = .seq its n ∧ its.size ≤ sizeLine ∧ Vals vs its.toList ∧ o.dict = none
theorem FxT.sq {K : PySem.W.Frag} {H : Hp} {a : Addr} {vs : List V} (q : FxT K H a vs) : SqT K H a vs := by
  rcases q with ⟨o, e, _⟩ | ⟨o, its, n, e1, e2, e3, e4, e5, _⟩
  · exact .inl (.inr ⟨o, e⟩)
  · exact .inr ⟨o, its, n, e1, e2, e3, e4, e5⟩
theorem FxT.keep {K : PySem.W.Frag} {H H' : Hp} (k : Keep H H') {a : Addr} {vs : List V} (q : FxT K H a vs) : FxT K H' a vs := by
  rcases q with ⟨o, e, d⟩ | q
  · exact .inl ⟨o, k.frz _ _ _ e, d⟩
  · exact .inr q
/-! ### what stands for what -/
mutual
inductive RelD (K : PySem.W.Frag) (mg : Str → Option Value) (r : List Addr) (H : Hp) : D → V → Prop
  | non : RelD K mg r H .non .non
  | bl (b : Bool) : RelD K mg r H (.bl b) (.bl b)
  | int (i : Int) : RelD K mg r H (.int i) (.int i)
  | str (x : Str) : RelD K mg r H (.str x) (.str x)
  | tup {xs : List D} {a : Addr} {vs : List V} : H a = some (.tup vs) → RelDs K mg r H xs vs → RelD K mg r H (.tup xs) (.ref a)
  | stp {xs : List D} {a : Addr} {vs : List V} : FxT K H a vs → RelDs K mg r H xs vs → RelD K mg r H (.stp xs) (.ref a)
  | ref {i : Nat} {a : Addr} : r[i]? = some a → RelD K mg r H (.ref i) (.ref a)
  | fn {x : Str} {a : Addr} : mg x = some (.ref a) → RelD K mg r H (.fn x) (.ref a)
  | ty (n : String) : RelD K mg r H (.ty n) (.ty n)
inductive RelDs (K : PySem.W.Frag) (mg : Str → Option Value) (r : List Addr) (H : Hp) : List D → List V → Prop
  | nil : RelDs K mg r H [] []
  | cons {x : D} {v : V} {xs : List D} {vs : List V} : RelD K mg r H x v → RelDs K mg r H xs vs → RelDs K mg r H (x :: xs) (v :: vs)
end

section
variable {K : PySem.W.Frag} {mg : Str → Option Value} {r r' : List Addr} {H H' : Hp}
mutual
theorem RelD.mono (e : Ext r r') (k : Keep H H') {d : D} {v : V} (h : RelD K mg r H d v) : RelD K mg r' H' d v := match h with
  | .non => .non
  | .bl b => .bl b
  | .int i => .int i
  | .str x => .str x
  | .tup s t => .tup (k.tup _ _ s) (RelDs.mono e k t)
  | .stp s t => .stp (s.keep k) (RelDs.mono e k t)
  | .ref q => .ref (e.get q)
  | .fn q => .fn q
  | .ty n => .ty n
theorem RelDs.mono (e : Ext r r') (k : Keep H H') {d : List D} {v : List V} (h : RelDs K mg r H d v) : RelDs K mg r' H' d v := match h with
  | .nil => .nil
  | .cons a b => .cons (RelD.mono e k a) (RelDs.mono e k b)
end
theorem RelDs.length : ∀ {ds : List D} {vs : List V}, RelDs K mg r H ds vs → ds.length = vs.length
  | _, _, .nil => rfl
  | _, _, .cons _ t => by simp [RelDs.length t]
theorem RelDs.get : ∀ {ds : List D} {vs : List V} {i : Nat} {d : D}, RelDs K mg r H ds vs → ds[i]? = some d → ∃ v, vs[i]? = some v ∧ RelD K mg r H d v
  | _, _, _, _, .nil, h => by simp at h
  | _, _, 0, _, .cons a _, h => by simp at h; subst h; exact ⟨_, rfl, a⟩
  | _, _, i + 1, d, .cons _ t, h => by
    obtain ⟨v, e, q⟩ := RelDs.get (i := i) (d := d) t (by simpa using h)
    exact ⟨v, by simpa using e, q⟩
theorem RelDs.getV : ∀ {ds : List D} {vs : List V} {i : Nat} {v : V}, RelDs K mg r H ds vs → vs[i]? = some v → ∃ d, ds[i]? = some d ∧ RelD K mg r H d v
  | _, _, _, _, .nil, h => by simp at h
  | _, _, 0, _, .cons a _, h => by simp at h; subst h; exact ⟨_, rfl, a⟩
  | _, _, i + 1, v, .cons _ t, h => by
    obtain ⟨d, e, q⟩ := RelDs.getV (i := i) (v := v) t (by simpa using h)
    exact ⟨d, by simpa using e, q⟩
theorem RelDs.append : ∀ {ds es : List D} {vs us : List V}, RelDs K mg r H ds vs → RelDs K mg r H es us → RelDs K mg r H (ds ++ es) (vs ++ us)
  | _, _, _, _, .nil, h => h
  | _, _, _, _, .cons a t, h => .cons a (RelDs.append t h)
theorem RelDs.one {d : D} {v : V} (h : RelD K mg r H d v) : RelDs K mg r H [d] [v] := .cons h .nil
theorem RelDs.set : ∀ {ds : List D} {vs : List V} (i : Nat) {d : D} {v : V}, RelDs K mg r H ds vs → RelD K mg r H d v → RelDs K mg r H (ds.set i d) (vs.set i v)
  | _, _, _, _, _, .nil, _ => .nil
  | _, _, 0, _, _, .cons _ t, h => .cons h t
  | _, _, i + 1, _, _, .cons a t, h => .cons a (RelDs.set i t h)
theorem RelDs.strs : ∀ ys : List Str, RelDs K mg r H (ys.map D.str) (ys.map V.str)
  | [] => .nil
  | y :: ys => .cons (.str y) (RelDs.strs ys)
theorem RelDs.ints : ∀ ys : List Int, RelDs K mg r H (ys.map D.int) (ys.map V.int)
  | [] => .nil
  | y :: ys => .cons (.int y) (RelDs.ints ys)
/-- pairs: keys alike, values related -/
abbrev RelP {κ : Type} (K : PySem.W.Frag) (mg : Str → Option Value) (r : List Addr) (H : Hp) : List (κ × D) → List (κ × V) → Prop := Paired fun p q => p.1 = q.1 ∧ RelD K mg r H p.2 q.2
theorem RelP.mono {κ : Type} (e : Ext r r') (k : Keep H H') : ∀ {ds : List (κ × D)} {vs : List (κ × V)}, RelP K mg r H ds vs → RelP K mg r' H' ds vs
  | _, _, .nil => .nil
  | _, _, .cons a t => .cons ⟨a.1, a.2.mono e k⟩ (RelP.mono e k t)

def RepO (K : PySem.W.Frag) (mg : Str → Option Value) (r : List Addr) (H : Hp) (o : Ob) (a : Addr) : Prop := match o with
  | .lst xs => ∃ vs, H a = some (.lst vs) ∧ RelDs K mg r H xs vs
  | .dic kvs => ∃ vs, H a = some (.dK vs) ∧ RelP K mg r H kvs vs
  | .rdl xs => ∃ vs, ((∃ ob, H a = some (.frz ob (.lst vs))) ∨ SqL K (fun _ => none) a vs) ∧ RelDs K mg r H xs vs
  | .ins c fs => ∃ C dx vs, mg c = some (.ref C) ∧ H a = some (.ins C dx vs) ∧ RelP K mg r H fs vs
  | .dit kvs => ∃ vs, H a = some (.dT vs) ∧ RelP K mg r H kvs vs
  | .rdd kvs => ∃ od vs, H a = some (.frz od (.dK vs)) ∧ RelP K mg r H kvs vs
  | .rdt kvs => ∃ od vs, H a = some (.frz od (.dT vs)) ∧ RelP K mg r H kvs vs

structure Rep (K : PySem.W.Frag) (mg : Str → Option Value) (r : List Addr) (h : HP) (H : Hp) : Prop where
  len : r.length = h.length
  obs : ∀ (i : Nat) (o : Ob) (a : Addr), h[i]? = some o → r[i]? = some a → RepO K mg r H o a
  inj : ∀ (i j : Nat) (a : Addr) (oi oj : Ob), h[i]? = some oi → h[j]? = some oj → uq oi = true → uq oj = true → r[i]? = some a → r[j]? = some a → i = j

theorem RepO.mono {o : Ob} {a : Addr} (e : Ext r r') (k : Keep H H') (s : mu o = true → H' a = H a) (h : RepO K mg r H o a) : RepO K mg r' H' o a := by
  cases o with
  | lst xs => obtain ⟨vs, q, t⟩ := h; exact ⟨vs, by rw [s rfl]; exact q, t.mono e k⟩
  | dic kvs => obtain ⟨vs, q, t⟩ := h; exact ⟨vs, by rw [s rfl]; exact q, RelP.mono e k t⟩
  | rdl xs =>
    obtain ⟨vs, q, t⟩ := h
    refine ⟨vs, ?_, t.mono e k⟩
    rcases q with ⟨ob, q⟩ | q
    · exact .inl ⟨ob, k.frz a ob _ q⟩
    · exact .inr q
  | ins c fs => obtain ⟨C, dx, vs, q1, q, t⟩ := h; exact ⟨C, dx, vs, q1, by rw [s rfl]; exact q, RelP.mono e k t⟩
  | dit kvs => obtain ⟨vs, q, t⟩ := h; exact ⟨vs, by rw [s rfl]; exact q, RelP.mono e k t⟩
  | rdd kvs => obtain ⟨od, vs, q, t⟩ := h; exact ⟨od, vs, k.frz a od _ q, RelP.mono e k t⟩
  | rdt kvs => obtain ⟨od, vs, q, t⟩ := h; exact ⟨od, vs, k.frz a od _ q, RelP.mono e k t⟩
/-- what a changing object is at its address -/
theorem RepO.some {o : Ob} {a : Addr} (m : mu o = true) (h : RepO K mg r H o a) : ∃ u, H a = some u ∧ (∀ xs, u ≠ .tup xs) ∧ (∀ ob v, u ≠ .frz ob v) ∧ (∀ fs, u ≠ .xd fs) := by
  cases o with
  | lst xs => obtain ⟨vs, q, t⟩ := h; exact ⟨_, q, ⟨fun _ z => (by cases z), fun _ _ z => (by cases z), fun _ z => (by cases z)⟩⟩
  | dic kvs => obtain ⟨vs, q, t⟩ := h; exact ⟨_, q, ⟨fun _ z => (by cases z), fun _ _ z => (by cases z), fun _ z => (by cases z)⟩⟩
  | rdl xs => cases m
  | ins c fs => obtain ⟨C, dx, vs, q1, q, t⟩ := h; exact ⟨_, q, ⟨fun _ z => (by cases z), fun _ _ z => (by cases z), fun _ z => (by cases z)⟩⟩
  | dit kvs => obtain ⟨vs, q, t⟩ := h; exact ⟨_, q, ⟨fun _ z => (by cases z), fun _ _ z => (by cases z), fun _ z => (by cases z)⟩⟩
  | rdd kvs => cases m
  | rdt kvs => cases m

/-- what stands alone stands somewhere -/
theorem RepO.ex {o : Ob} {a : Addr} (m : uq o = true) (h : RepO K mg r H o a) : ∃ u, H a = Option.some u := by
  cases o with
  | lst xs => obtain ⟨vs, q, t⟩ := h; exact ⟨_, q⟩
  | dic kvs => obtain ⟨vs, q, t⟩ := h; exact ⟨_, q⟩
  | rdl xs => cases m
  | ins c fs => obtain ⟨C, dx, vs, q1, q, t⟩ := h; exact ⟨_, q⟩
  | dit kvs => obtain ⟨vs, q, t⟩ := h; exact ⟨_, q⟩
  | rdd kvs => obtain ⟨od, vs, q, t⟩ := h; exact ⟨_, q⟩
  | rdt kvs => obtain ⟨od, vs, q, t⟩ := h; exact ⟨_, q⟩
variable {h : HP} {o : Ob} {p a : Addr}
theorem Rep.at (R : Rep K mg r h H) {i : Nat} (e : h[i]? = some o) : ∃ a, r[i]? = some a ∧ RepO K mg r H o a := by
  have hi : i < h.length := by
    rcases Nat.lt_or_ge i h.length with q | q
    · exact q
    · rw [List.getElem?_eq_none q] at e; cases e
  have hr : i < r.length := by rw [R.len]; exact hi
  exact ⟨r[i], List.getElem?_eq_getElem hr, R.obs i o _ e (List.getElem?_eq_getElem hr)⟩
theorem Rep.ob (R : Rep K mg r h H) {i : Nat} (e : r[i]? = some a) : ∃ o, h[i]? = some o ∧ RepO K mg r H o a := by
  have hi : i < r.length := by
    rcases Nat.lt_or_ge i r.length with q | q
    · exact q
    · rw [List.getElem?_eq_none q] at e; cases e
  have hr : i < h.length := by rw [← R.len]; exact hi
  exact ⟨h[i], List.getElem?_eq_getElem hr, R.obs i _ _ (List.getElem?_eq_getElem hr) e⟩
/-- a new object that the plain heap does not tell of -/
theorem Rep.fresh (R : Rep K mg r h H) {u : HO} (hp : H p = none) : Rep K mg r h (upd H p u) := by
  refine ⟨R.len, fun i o a e1 e2 => (R.obs i o a e1 e2).mono (Ext.refl r) (Keep.new hp) fun m => ?_, R.inj⟩
  obtain ⟨w, q, _⟩ := (R.obs i o a e1 e2).some m
  rw [upd_ne (ne_of_none q hp)]
theorem get_snoc {α : Type} {l : List α} {x y : α} {i : Nat} (h : (l ++ [x])[i]? = some y) : (i < l.length ∧ l[i]? = some y) ∨ (i = l.length ∧ x = y) := by
  rcases Nat.lt_trichotomy i l.length with q | q | q
  · rw [List.getElem?_append_left q] at h; exact .inl ⟨q, h⟩
  · subst q; rw [List.getElem?_append_right (Nat.le_refl _)] at h; simp at h; exact .inr ⟨rfl, h⟩
  · rw [List.getElem?_eq_none (by simp; omega)] at h; cases h
theorem Rep.new (R : Rep K mg r h H) {u : HO} (hp : H p = none) (q : RepO K mg (r ++ [p]) (upd H p u) o p) : Rep K mg (r ++ [p]) (h ++ [o]) (upd H p u) := by
  have old : ∀ {i : Nat} {a : Addr} {o' : Ob}, h[i]? = some o' → r[i]? = some a → uq o' = true → a ≠ p := fun e1 e2 m => by
    obtain ⟨w, q⟩ := (R.obs _ _ _ e1 e2).ex m
    exact ne_of_none q hp
  refine ⟨by simp [R.len], fun i o' a e1 e2 => ?_, fun i j a oi oj e1 e2 m1 m2 e3 e4 => ?_⟩
  · rcases get_snoc e1 with ⟨l1, e1⟩ | ⟨l1, e1⟩
    · rcases get_snoc e2 with ⟨l2, e2⟩ | ⟨l2, e2⟩
      · refine (R.obs i o' a e1 e2).mono (Ext.one r p) (Keep.new hp) fun m => ?_
        rw [upd_ne (old e1 e2 (mu_uq m))]
      · rw [R.len] at l2; omega
    · rcases get_snoc e2 with ⟨l2, e2⟩ | ⟨l2, e2⟩
      · rw [R.len] at l2; omega
      · subst e1 e2; exact q
  · rcases get_snoc e1 with ⟨l1, e1⟩ | ⟨l1, e1⟩
    · rcases get_snoc e3 with ⟨_, e3⟩ | ⟨l3, _⟩
      · rcases get_snoc e2 with ⟨l2, e2⟩ | ⟨l2, e2⟩
        · rcases get_snoc e4 with ⟨_, e4⟩ | ⟨l4, _⟩
          · exact R.inj i j a oi oj e1 e2 m1 m2 e3 e4
          · rw [R.len] at l4; omega
        · rcases get_snoc e4 with ⟨l4, _⟩ | ⟨_, e4⟩
          · rw [R.len] at l4; omega
          · exact absurd e4.symm (old e1 e3 m1)
      · rw [R.len] at l3; omega
    · rcases get_snoc e3 with ⟨l3, _⟩ | ⟨_, e3⟩
      · rw [R.len] at l3; omega
      · rcases get_snoc e2 with ⟨l2, e2⟩ | ⟨l2, e2⟩
        · rcases get_snoc e4 with ⟨_, e4⟩ | ⟨l4, _⟩
          · exact absurd e3.symm (old e2 e4 m2)
          · rw [R.len] at l4; omega
        · omega
theorem get_set {α : Type} {l : List α} {x y : α} {i j : Nat} (h : (l.set i x)[j]? = some y) : (i = j ∧ x = y) ∨ (i ≠ j ∧ l[j]? = some y) := by
  by_cases e : i = j
  · subst e
    by_cases hi : i < l.length
    · rw [List.getElem?_set_self hi] at h; exact .inl ⟨rfl, Option.some.inj h⟩
    · rw [List.getElem?_eq_none (by simpa using hi)] at h; cases h
  · rw [List.getElem?_set_ne e] at h; exact .inr ⟨e, h⟩
theorem Rep.set (R : Rep K mg r h H) {u : HO} {o' : Ob} {i : Nat} (e : h[i]? = some o) (m : mu o = true) (m' : mu o' = true) (ea : r[i]? = some a) (q : Keep H (upd H a u) → RepO K mg r (upd H a u) o' a) : Rep K mg r (h.set i o') (upd H a u) ∧ Keep H (upd H a u) := by
  obtain ⟨w, q1, q2, q3, q4⟩ := (R.obs i o a e ea).some m
  have k : Keep H (upd H a u) := Keep.mut q1 q2 q3 q4
  refine ⟨⟨by simp [R.len], fun j o2 b e1 e2 => ?_, fun j l b oj ol e1 e2 m1 m2 e3 e4 => ?_⟩, k⟩
  · rcases get_set e1 with ⟨e1, e5⟩ | ⟨n, e1⟩
    · subst e1 e5
      rw [ea] at e2; cases e2
      exact q k
    · refine (R.obs j o2 b e1 e2).mono (Ext.refl r) k fun m2 => ?_
      have : b ≠ a := fun z => by subst z; exact n (R.inj i j b o o2 e e1 (mu_uq m) (mu_uq m2) ea e2)
      rw [upd_ne this]
  · have f : ∀ {j : Nat} {oj : Ob}, (h.set i o')[j]? = some oj → uq oj = true → ∃ o2, h[j]? = some o2 ∧ uq o2 = true := fun {j oj} e1 m1 => by
      rcases get_set e1 with ⟨e1, _⟩ | ⟨_, e1⟩
      · subst e1; exact ⟨o, e, mu_uq m⟩
      · exact ⟨oj, e1, m1⟩
    obtain ⟨a1, b1, c1⟩ := f e1 m1
    obtain ⟨a2, b2, c2⟩ := f e2 m2
    exact R.inj j l b a1 a2 b1 b2 c1 c2 e3 e4
end
end PM
end
section
set_option Elab.async false
set_option linter.all false
set_option maxRecDepth 100000
set_option maxHeartbeats 1000000
namespace PM
open PySem PySem.Spec PyProof.Rows L2

/-! ### results -/
inductive R (α : Type) where
  | ok (a : α) (h : HP) | exc (c : Str) (fs : List (Str × D)) (h : HP) | bad
def R.bind {α β : Type} (x : R α) (k : α → HP → R β) : R β := match x with
  | .ok a h => k a h
  | .exc c fs h => .exc c fs h
  | .bad => .bad
inductive RS where
  | nx (s : SD) (h : HP) | rt (d : D) (h : HP) | bk (s : SD) (h : HP) | ct (s : SD) (h : HP) | exc (s : SD) (c : Str) (fs : List (Str × D)) (h : HP) | bad
def RS.seq (x : RS) (k : SD → HP → RS) : RS := match x with
  | .nx s h => k s h
  | .rt d h => .rt d h
  | .bk s h => .bk s h
  | .ct s h => .ct s h
  | .exc s c fs h => .exc s c fs h
  | .bad => .bad
def R.toS {α : Type} (x : R α) (s : SD) (k : α → HP → RS) : RS := match x with
  | .ok a h => k a h
  | .exc c fs h => .exc s c fs h
  | .bad => .bad
def ofO (x : Option (D × HP)) : R D := match x with
  | some (d, h) => .ok d h
  | none => .bad
abbrev MS := SD → HP → RS
abbrev ME := SD → HP → R D
abbrev MA := SD → HP → R (List D)
abbrev MT := SD → HP → R Bool

structure RR (α β : Type) where
  rel : PySem.W.Frag → (Str → Option Value) → List Addr → Hp → α → β → Prop
  mono : ∀ {K : PySem.W.Frag} {mg : Str → Option Value} {r r' : List Addr} {H H' : Hp} {a : α} {b : β}, Ext r r' → Keep H H' → rel K mg r H a b → rel K mg r' H' a b
def rD : RR D V := ⟨RelD, fun e k h => h.mono e k⟩
def rDs : RR (List D) (List V) := ⟨RelDs, fun e k h => h.mono e k⟩
def rEqq (α : Type) : RR α α := ⟨fun _ _ _ _ a b => a = b, fun _ _ h => h⟩
abbrev rB : RR Bool Bool := rEqq Bool
abbrev rOI : RR (Option Int) (Option Int) := rEqq (Option Int)

structure RelSt (K : PySem.W.Frag) (mg : Str → Option Value) (r : List Addr) (H : Hp) (s : SD) (σ : L2.St) : Prop where
  len : s.length = σ.length
  at' : ∀ (i : Nat) (d : D), s[i]? = some (some d) → ∃ v, σ[i]? = some (some v) ∧ RelD K mg r H d v
/-- an error: its class by name, its fields -/
def XRel (K : PySem.W.Frag) (mg : Str → Option Value) (r : List Addr) (H : Hp) (c : Str) (fs : List (Str × D)) (cls : Value) (dd : Option Addr) : Prop :=
  ∃ C, mg c = some (.ref C) ∧ cls = .ref C ∧ ∃ d vs, dd = some d ∧ H d = some (.xd vs) ∧ RelP K mg r H fs vs

section
variable {K : PySem.W.Frag} {mg : Str → Option Value} {r r' r1 : List Addr} {H H' H1 : Hp} {h : HP} {s : SD} {σ : L2.St} {α β γ δ : Type} {W : WX}
theorem RelSt.mono (e : Ext r r') (k : Keep H H') (h : RelSt K mg r H s σ) : RelSt K mg r' H' s σ := ⟨h.len, fun i d q => let ⟨v, a, b⟩ := h.at' i d q; ⟨v, a, b.mono e k⟩⟩
theorem RelSt.set (h : RelSt K mg r H s σ) (i : Nat) {d : D} {v : V} (q : RelD K mg r H d v) : RelSt K mg r H (s.set i (some d)) (σ.set i (some v)) := by
  refine ⟨by simp [h.len], fun j d' e => ?_⟩
  rcases get_set e with ⟨e1, e2⟩ | ⟨n, e⟩
  · subst e1
    have hi : i < σ.length := by
      rw [← h.len]
      rcases Nat.lt_or_ge i s.length with q | q
      · exact q
      · rw [List.getElem?_eq_none (by simpa using q)] at e; cases e
    cases e2
    exact ⟨v, by rw [List.getElem?_set_self hi], q⟩
  · obtain ⟨v', a, b⟩ := h.at' j d' e
    exact ⟨v', by rw [List.getElem?_set_ne n]; exact a, b⟩
theorem RelSt.unset (h : RelSt K mg r H s σ) (i : Nat) : RelSt K mg r H (s.set i none) (σ.set i none) := by
  refine ⟨by simp [h.len], fun j d' e => ?_⟩
  rcases get_set e with ⟨e1, e2⟩ | ⟨n, e⟩
  · cases e2
  · obtain ⟨v', a, b⟩ := h.at' j d' e
    exact ⟨v', by rw [List.getElem?_set_ne n]; exact a, b⟩

def Post (K : PySem.W.Frag) (mg : Str → Option Value) (rr : RR α β) (W : WX) (r : List Addr) (σ : L2.St) (H : Hp) (Q : β → Hp → Prop) (x : R α) : Prop := match x with
  | .ok a h' => ∀ r' b H', Ext r r' → Keep H H' → Rep K mg r' h' H' → rr.rel K mg r' H' a b → Q b H'
  | .exc c fs h' => ∀ r' cls dd H', Ext r r' → Keep H H' → Rep K mg r' h' H' → XRel K mg r' H' c fs cls dd → W cls dd σ H'
  | .bad => False
def tM (K : PySem.W.Frag) (mg : Str → Option Value) (rr : RR α β) (W : WX) (m : SD → HP → R α) : L2.St → Hp → (β → Hp → Prop) → Prop := fun σ H Q =>
  ∃ r s h, Rep K mg r h H ∧ RelSt K mg r H s σ ∧ Post K mg rr W r σ H Q (m s h)

theorem Post.mono {rr : RR α β} {Q : β → Hp → Prop} {x : R α} (p : Post K mg rr W r σ H Q x) (e : Ext r r1) (k : Keep H H1) : Post K mg rr W r1 σ H1 Q x := by
  cases x with
  | ok a h' => exact fun r' b H' e' k' => p r' b H' (e.trans e') (k.trans k')
  | exc c fs h' => exact fun r' cls dd H' e' k' => p r' cls dd H' (e.trans e') (k.trans k')
  | bad => exact p
theorem Post.imp {rr : RR α β} {Q Q' : β → Hp → Prop} {x : R α} (p : Post K mg rr W r σ H Q x) (q : ∀ b H', Q b H' → Q' b H') : Post K mg rr W r σ H Q' x := by
  cases x with
  | ok a h' => exact fun r' b H' e' k' rp rl => q _ _ (p r' b H' e' k' rp rl)
  | exc c fs h' => exact p
  | bad => exact p
theorem Post.bind {rr1 : RR α β} {rr2 : RR γ δ} {Q : δ → Hp → Prop} {x : R α} {k : α → HP → R γ} (p : Post K mg rr2 W r σ H Q (x.bind k)) :
    Post K mg rr1 W r σ H (fun b H1 => ∃ r1 a h1, Ext r r1 ∧ Keep H H1 ∧ Rep K mg r1 h1 H1 ∧ rr1.rel K mg r1 H1 a b ∧ Post K mg rr2 W r1 σ H1 Q (k a h1)) x := by
  cases x with
  | ok a h' => exact fun r' b H' e' k' rp rl => ⟨r', a, h', e', k', rp, rl, Post.mono p e' k'⟩
  | exc c fs h' => exact p
  | bad => exact p
/-- the first of two steps -/
theorem tM.bind {rr1 : RR α β} {rr2 : RR γ δ} {Q : δ → Hp → Prop} {m : SD → HP → R α} {k : SD → α → HP → R γ} (t : tM K mg rr2 W (fun s h => (m s h).bind (k s)) σ H Q) :
    tM K mg rr1 W m σ H (fun b H1 => ∃ r1 s a h1, Rep K mg r1 h1 H1 ∧ RelSt K mg r1 H1 s σ ∧ rr1.rel K mg r1 H1 a b ∧ Post K mg rr2 W r1 σ H1 Q (k s a h1)) := by
  obtain ⟨r, s, h, rp, rs, p⟩ := t
  exact ⟨r, s, h, rp, rs, (Post.bind (rr1 := rr1) p).imp fun b H' ⟨r1, a, h1, e, k, rp, rl, q⟩ => ⟨r1, s, a, h1, rp, rs.mono e k, rl, q⟩⟩
/-- a value at hand -/
theorem Post.here {rr : RR α β} {Q : β → Hp → Prop} {a : α} {b : β} (p : Post K mg rr W r σ H Q (.ok a h)) (rp : Rep K mg r h H) (rl : rr.rel K mg r H a b) : Q b H := p r b H (Ext.refl r) (Keep.refl H) rp rl

/-! ### values alone (no error) -/
def PostV (K : PySem.W.Frag) (mg : Str → Option Value) (r : List Addr) (H : Hp) (Q : VK) (x : Option (D × HP)) : Prop := match x with
  | some (d, h') => ∀ r' v H', Ext r r' → Keep H H' → Rep K mg r' h' H' → RelD K mg r' H' d v → Q v H'
  | none => False
theorem Post.ofO {Q : VK} {x : Option (D × HP)} (p : Post K mg rD W r σ H Q (ofO x)) : PostV K mg r H Q x := by
  cases x with
  | none => exact p
  | some y => obtain ⟨d, h'⟩ := y; exact p
theorem PostV.mono {Q : VK} {x : Option (D × HP)} (p : PostV K mg r H Q x) (e : Ext r r1) (k : Keep H H1) : PostV K mg r1 H1 Q x := by
  cases x with
  | none => exact p
  | some y => obtain ⟨d, h'⟩ := y; exact fun r' v H' e' k' => p r' v H' (e.trans e') (k.trans k')
theorem PostV.here {Q : VK} {d : D} {v : V} (p : PostV K mg r H Q (some (d, h))) (rp : Rep K mg r h H) (rl : RelD K mg r H d v) : Q v H := p r v H (Ext.refl r) (Keep.refl H) rp rl
/-- a new list (a new object of the plain heap) -/
theorem PostV.lst {Q : VK} {xs : List D} {vs : List V} {p : Addr} (q : PostV K mg r H Q (some (.ref h.length, h ++ [.lst xs]))) (rp : Rep K mg r h H) (rl : RelDs K mg r H xs vs) (hp : H p = none) : Q (.ref p) (upd H p (.lst vs)) := by
  refine q (r ++ [p]) _ _ (Ext.one r p) (Keep.new hp) (rp.new hp ⟨vs, upd_same, rl.mono (Ext.one r p) (Keep.new hp)⟩) (.ref ?_)
  rw [List.getElem?_append_right (by rw [rp.len]; exact Nat.le_refl _), rp.len]; simp
/-- a new tuple -/
theorem PostV.tup {Q : VK} {xs : List D} {vs : List V} {p : Addr} (q : PostV K mg r H Q (some (.tup xs, h))) (rp : Rep K mg r h H) (rl : RelDs K mg r H xs vs) (hp : H p = none) : Q (.ref p) (upd H p (.tup vs)) :=
  q r _ _ (Ext.refl r) (Keep.new hp) (rp.fresh hp) (.tup upd_same (rl.mono (Ext.refl r) (Keep.new hp)))

def rV2 (K : PySem.W.Frag) (mg : Str → Option Value) (g : D → D → HP → Option (D × HP)) : R2 := fun x y H Q => ∃ r a b h, Rep K mg r h H ∧ RelD K mg r H a x ∧ RelD K mg r H b y ∧ PostV K mg r H Q (g a b h)
def rV1 (K : PySem.W.Frag) (mg : Str → Option Value) (g : D → HP → Option (D × HP)) : V → Hp → VK → Prop := fun x H Q => ∃ r a h, Rep K mg r h H ∧ RelD K mg r H a x ∧ PostV K mg r H Q (g a h)
def rVs (K : PySem.W.Frag) (mg : Str → Option Value) (g : List D → HP → Option (D × HP)) : List V → Hp → VK → Prop := fun xs H Q => ∃ r ds h, Rep K mg r h H ∧ RelDs K mg r H ds xs ∧ PostV K mg r H Q (g ds h)
def rVm (K : PySem.W.Frag) (mg : Str → Option Value) (g : D → List D → HP → Option (D × HP)) : V → List V → Hp → VK → Prop := fun x xs H Q => ∃ r d ds h, Rep K mg r h H ∧ RelD K mg r H d x ∧ RelDs K mg r H ds xs ∧ PostV K mg r H Q (g d ds h)
end

/-! ### the steps of plain code -/
def mVar (i : Nat) : ME := fun s h => match s[i]? with
  | some (some d) => .ok d h
  | _ => .bad
def mC (d : D) : ME := fun _ h => .ok d h
def m1 (g : D → HP → Option (D × HP)) (a : ME) : ME := fun s h => (a s h).bind fun x h => ofO (g x h)
def m2 (g : D → D → HP → Option (D × HP)) (a b : ME) : ME := fun s h => (a s h).bind fun x h => (b s h).bind fun y h => ofO (g x y h)
def mNil : MA := fun _ h => .ok [] h
def mCons (a : ME) (t : MA) : MA := fun s h => (a s h).bind fun x h => (t s h).bind fun xs h => .ok (x :: xs) h
def mCall (g : List D → HP → R D) (t : MA) : ME := fun s h => (t s h).bind g
def mB (g : List D → HP → Option (D × HP)) (t : MA) : ME := fun s h => (t s h).bind fun xs h => ofO (g xs h)
def mMt (g : D → List D → HP → Option (D × HP)) (a : ME) (t : MA) : ME := fun s h => (a s h).bind fun x h => (t s h).bind fun xs h => ofO (g x xs h)
def kBl (x : D) (h : HP) : R Bool := match x with
  | .bl b => .ok b h
  | _ => .bad
def mTest (a : ME) : MT := fun s h => (a s h).bind kBl
def mNot (a : MT) : MT := fun s h => (a s h).bind fun b h => .ok (!b) h
def mAnd (a b : MT) : MT := fun s h => (a s h).bind fun x h => bif x then b s h else .ok false h
def mOr (a b : MT) : MT := fun s h => (a s h).bind fun x h => bif x then .ok true h else b s h
def mIfE (c : MT) (a b : ME) : ME := fun s h => (c s h).bind fun x h => bif x then a s h else b s h
def mAndV (a b : ME) : ME := fun s h => ((a s h).bind kBl).bind fun x h => bif x then b s h else .ok (.bl false) h
def mOrV (a b : ME) : ME := fun s h => ((a s h).bind kBl).bind fun x h => bif x then .ok (.bl true) h else b s h
def mNotV (a : ME) : ME := fun s h => ((a s h).bind kBl).bind fun x h => .ok (.bl (!x)) h
def mTup (t : MA) : ME := fun s h => (t s h).bind fun xs h => if xs.length ≤ 1000000 then .ok (.tup xs) h else .bad
def mLst (t : MA) : ME := fun s h => (t s h).bind fun xs h => if xs.length ≤ 1000000 then .ok (.ref h.length) (h ++ [.lst xs]) else .bad
abbrev MO := SD → HP → R (Option Int)
def mNoPart : MO := fun _ h => .ok none h
def kInt (x : D) (h : HP) : R (Option Int) := match x with
  | .int i => .ok (some i) h
  | _ => .bad
def mPart (a : ME) : MO := fun s h => (a s h).bind kInt
def mSl (g : D → Option Int → Option Int → HP → Option (D × HP)) (a : ME) (l u : MO) : ME := fun s h => (a s h).bind fun x h => (l s h).bind fun lo h => (u s h).bind fun hi h => ofO (g x lo hi h)

theorem line_of {n : Nat} (h : n ≤ 1000000) : n ≤ sizeLine := by rw [sizeLine_eq]; omega
theorem line_lt {n : Nat} (h : n < 1000000) : n < sizeLine := by rw [sizeLine_eq]; omega

theorem _root_.L2.PE.imp {X : Cx} {e : Expr} {t t' : TE} (h : PE X e t) (f : ∀ σ H Q, t' σ H Q → t σ H Q) : PE X e t' := ⟨fun pins s σ H Q I q => h.run pins s σ H Q I (f σ H Q q)⟩
theorem _root_.L2.PT.imp {X : Cx} {e : Expr} {t t' : TT} (h : PT X e t) (f : ∀ σ H Q, t' σ H Q → t σ H Q) : PT X e t' := ⟨fun pins s σ H Q I q => h.run pins s σ H Q I (f σ H Q q)⟩
theorem _root_.L2.PW.imp {X : Cx} {e : Expr} {t t' : TT} (h : PW X e t) (f : ∀ σ H Q, t' σ H Q → t σ H Q) : PW X e t' := ⟨fun w pins s σ H Q I q => h.run w pins s σ H Q I (f σ H Q q)⟩
theorem _root_.L2.PA.imp {X : Cx} {e : List Expr} {t t' : TA} (h : PA X e t) (f : ∀ σ H Q, t' σ H Q → t σ H Q) : PA X e t' := ⟨fun pos pins s σ H Q I q => h.run pos pins s σ H Q I (f σ H Q q)⟩
theorem _root_.L2.PO.imp {X : Cx} {e : Option Expr} {t t' : TO} (h : PO X e t) (f : ∀ σ H Q, t' σ H Q → t σ H Q) : PO X e t' := ⟨fun pins s σ H Q I q => h.run pins s σ H Q I (f σ H Q q)⟩
theorem _root_.L2.PS.imp {X : Cx} {e : Stmt} {t t' : TS} (h : PS X e t) (f : ∀ D σ H, t' D σ H → t D σ H) : PS X e t' := ⟨fun pins s σ H D I q => h.run pins s σ H D I (f D σ H q)⟩
theorem _root_.L2.PSs.imp {X : Cx} {e : List Stmt} {t t' : TS} (h : PSs X e t) (f : ∀ D σ H, t' D σ H → t D σ H) : PSs X e t' := ⟨fun pins s σ H D I q => h.run pins s σ H D I (f D σ H q)⟩

section
variable {X : Cx} {W : WX} {a b c e : Expr} {es rest : List Expr} {ma mb mc : ME} {ta tb : MT} {t : MA} {pos : Pos}
abbrev QE (X : Cx) (W : WX) (e : Expr) (m : ME) : Prop := PE X e (tM X.K X.mg rD W m)
abbrev QT (X : Cx) (W : WX) (e : Expr) (m : MT) : Prop := PT X e (tM X.K X.mg rB W m)
abbrev QW (X : Cx) (W : WX) (e : Expr) (m : MT) : Prop := PW X e (tM X.K X.mg rB W m)
abbrev QA (X : Cx) (W : WX) (es : List Expr) (m : MA) : Prop := PA X es (tM X.K X.mg rDs W m)
abbrev QO (X : Cx) (W : WX) (e : Option Expr) (m : MO) : Prop := PO X e (tM X.K X.mg rOI W m)

theorem qe_var {i : Nat} {x : Str} (hN : X.N[i]? = some x := by rfl) (hv : Vis X.env.scope x := by first | exact Or.inl rfl | exact Or.inr (Or.inl rfl) | exact Or.inr (Or.inr rfl)) (hd : (x == ("__debug__" : Str)) = false := by decide)
    (hcd : (x == ("__classdict__" : Str)) = false := by decide) : QE X W (.Name x pos) (mVar i) := (pe_var hN hv hd hcd).imp fun σ H Q ⟨r, s, h, rp, rs, p⟩ => by
  unfold mVar at p
  cases q : s[i]? with
  | none => rw [q] at p; exact p.elim
  | some o =>
    cases o with
    | none => rw [q] at p; exact p.elim
    | some d =>
      rw [q] at p
      obtain ⟨v, e1, e2⟩ := rs.at' i d q
      exact ⟨v, e1, Post.here p rp e2⟩
theorem qe_const {d : D} {v : V} (hp : PE X e (tC v)) (hd : ∀ r H, RelD X.K X.mg r H d v) : QE X W e (mC d) := hp.imp fun σ H Q ⟨r, s, h, rp, rs, p⟩ => Post.here p rp (hd r H)
theorem qe_int {i : Int} {j} : QE X W (.Constant (.int i) j pos) (mC (.int i)) := qe_const pe_int fun _ _ => .int i
theorem qe_str {x : Str} {j} : QE X W (.Constant (.str x) j pos) (mC (.str x)) := qe_const pe_str fun _ _ => .str x
theorem qe_bl {x : Bool} {j} : QE X W (.Constant (.bool x) j pos) (mC (.bl x)) := qe_const pe_bl fun _ _ => .bl x
theorem qe_non {j} : QE X W (.Constant .none j pos) (mC .non) := qe_const pe_non fun _ _ => .non
theorem qe_gint {x : Str} {i : Int} {t : Tok} (hg : Gl X x) (hm : X.mg x = some (.int i t)) (hd : (x == ("__debug__" : Str)) = false := by decide) : QE X W (.Name x pos) (mC (.int i)) := qe_const (pe_glob (v := .int i) hg hm ⟨_, rfl⟩ hd) fun _ _ => .int i
theorem qe_gstr {x : Str} {i : Str} {t : Tok} (hg : Gl X x) (hm : X.mg x = some (.str i t)) (hd : (x == ("__debug__" : Str)) = false := by decide) : QE X W (.Name x pos) (mC (.str i)) := qe_const (pe_glob (v := .str i) hg hm ⟨_, rfl⟩ hd) fun _ _ => .str i
theorem qe_fn {x : Str} {ad : Addr} (hg : Gl X x) (hm : X.mg x = some (.ref ad)) (hd : (x == ("__debug__" : Str)) = false := by decide) : QE X W (.Name x pos) (mC (.fn x)) := qe_const (pe_glob (v := .ref ad) hg hm rfl hd) fun _ _ => .fn hm
theorem qe_ty {x : Str} {n : String} (hg : Gl X x) (hm : X.mg x = none) (hv : bootBuiltins x = some (.type n)) (hn : x ≠ "__name__" := by decide) (hd : (x == ("__debug__" : Str)) = false := by decide) : QE X W (.Name x pos) (mC (.ty n)) :=
  qe_const (pe_bltn (v := .ty n) hg hm hv rfl hn hd) fun _ _ => .ty n

/-- two operands -/
theorem two {g : D → D → HP → Option (D × HP)} {σ : L2.St} {H : Hp} {Q : VK} (q : tM X.K X.mg rD W (m2 g ma mb) σ H Q) :
    tOp (rV2 X.K X.mg g) (tM X.K X.mg rD W ma) (tM X.K X.mg rD W mb) σ H Q := by
  have q1 := tM.bind (rr1 := rD) (m := ma) (k := fun s x h => (mb s h).bind fun y h => ofO (g x y h)) q
  obtain ⟨r, s, h, rp, rs, p⟩ := q1
  refine ⟨r, s, h, rp, rs, p.imp fun x H1 ⟨r1, s1, a, h1, rp1, rs1, rl1, p1⟩ => ?_⟩
  refine ⟨r1, s1, h1, rp1, rs1, (Post.bind (rr1 := rD) p1).imp fun y H2 ⟨r2, b, h2, e2, k2, rp2, rl2, p2⟩ => ?_⟩
  exact ⟨r2, a, b, h2, rp2, rl1.mono e2 k2, rl2, p2.ofO⟩
theorem qe_op {op : Operator} {g : D → D → HP → Option (D × HP)} (ho : OpR X (binaryOp op) (rV2 X.K X.mg g)) (ha : QE X W a ma) (hb : QE X W b mb) : QE X W (.BinOp a op b pos) (m2 g ma mb) :=
  (pe_op ho ha hb).imp fun _ _ _ q => two q
theorem qe_cmp {op : CmpOp} {g : D → D → HP → Option (D × HP)} (ho : OpR X (compareOp op) (rV2 X.K X.mg g)) (ha : QE X W a ma) (hb : QE X W b mb) (hm : behindInMarks op b = false := by first | exact nomark _ | rfl) : QE X W (.Compare a [op] [b] pos) (m2 g ma mb) :=
  (pe_cmpR ho ha hb hm).imp fun _ _ _ q => two q
theorem qe_ix {g : D → D → HP → Option (D × HP)} (ho : IxR X (rV2 X.K X.mg g)) (ha : QE X W a ma) (hb : QE X W b mb) (hs : PlainIx b := by exact fun _ _ => rfl) : QE X W (.Subscript a b pos) (m2 g ma mb) :=
  (pe_ix ho ha hb hs).imp fun _ _ _ q => two q
theorem qe_un {op : UnaryOp} {g : D → HP → Option (D × HP)} (ho : UnR X (unaryOp op) (rV1 X.K X.mg g)) (ha : QE X W a ma) : QE X W (.UnaryOp op a pos) (m1 g ma) :=
  (pe_un ho ha).imp fun σ H Q q => by
    obtain ⟨r, s, h, rp, rs, p⟩ := tM.bind (rr1 := rD) (m := ma) (k := fun s x h => ofO (g x h)) q
    exact ⟨r, s, h, rp, rs, p.imp fun x H1 ⟨r1, s1, a, h1, rp1, rs1, rl1, p1⟩ => ⟨r1, a, h1, rp1, rl1, p1.ofO⟩⟩

/-! tests -/
theorem bool_of {γ δ : Type} {rr : RR γ δ} {K : PySem.W.Frag} {mg : Str → Option Value} {r : List Addr} {H : Hp} {σ : L2.St} {d : D} {v : V} {h : HP} {Q : δ → Hp → Prop} {k : Bool → HP → R γ} (rp : Rep K mg r h H) (rl : RelD K mg r H d v)
    (p : Post K mg rr W r σ H Q ((kBl d h).bind k)) : ∃ b, v = .bl b ∧ Post K mg rr W r σ H Q (k b h) := by
  cases rl with
  | bl b => exact ⟨b, rfl, p⟩
  | _ => exact p.elim
theorem bind_id {α : Type} (x : R α) : x = x.bind .ok := by cases x <;> rfl
theorem bind_bind {α β γ : Type} (x : R α) (f : α → HP → R β) (g : β → HP → R γ) : (x.bind f).bind g = x.bind fun a h => (f a h).bind g := by cases x <;> rfl
theorem bool_of' {K : PySem.W.Frag} {mg : Str → Option Value} {r : List Addr} {H : Hp} {σ : L2.St} {d : D} {v : V} {h : HP} {Q : Bool → Hp → Prop} (rp : Rep K mg r h H) (rl : RelD K mg r H d v)
    (p : Post K mg rB W r σ H Q (kBl d h)) : ∃ b, v = .bl b ∧ Q b H := by
  rw [bind_id (kBl d h)] at p
  obtain ⟨b, e, q⟩ := bool_of rp rl p
  exact ⟨b, e, Post.here (rr := rB) q rp rfl⟩
theorem qt_val (ha : QE X W a ma) (he : ∀ whole, isTrue a X.env whole = (do let v ← whole; standAt a.pos; holding [v] (truthy v)) := by intro _; rfl) : QT X W a (mTest ma) :=
  (pt_val ha he).imp fun σ H Q q => by
    obtain ⟨r, s, h, rp, rs, p⟩ := tM.bind (rr1 := rD) (m := ma) (k := fun s => kBl) q
    exact ⟨r, s, h, rp, rs, p.imp fun x H1 ⟨r1, s1, d, h1, rp1, rs1, rl1, p1⟩ => bool_of' rp1 rl1 p1⟩
theorem qt_cmp {op : CmpOp} {g : D → D → HP → Option (D × HP)} (ho : OpR X (compareOp op) (rV2 X.K X.mg g)) (ha : QE X W a ma) (hb : QE X W b mb) (hm : behindInMarks op b = false := by first | exact nomark _ | rfl) : QT X W (.Compare a [op] [b] pos) (mTest (m2 g ma mb)) :=
  (pt_cmpR ho ha hb hm).imp fun σ H Q q => by
    have q1 := tM.bind (rr1 := rD) (m := m2 g ma mb) (k := fun s => kBl) q
    have q2 := two q1
    obtain ⟨r, s, h, rp, rs, p⟩ := q2
    refine ⟨r, s, h, rp, rs, p.imp fun x H1 ⟨r1, s1, h1, rp1, rs1, p1⟩ => ⟨r1, s1, h1, rp1, rs1, p1.imp fun y H2 ⟨r2, a, b, h2, rp2, rla, rlb, p2⟩ => ⟨r2, a, b, h2, rp2, rla, rlb, ?_⟩⟩⟩
    cases e : g a b h2 with
    | none => rw [e] at p2; exact p2.elim
    | some z =>
      obtain ⟨d, h3⟩ := z
      rw [e] at p2
      exact fun r3 v H3 e3 k3 rp3 rl3 => by
        obtain ⟨r4, s4, a4, h4, rp4, rs4, rl4, p4⟩ := p2 r3 v H3 e3 k3 rp3 rl3
        exact bool_of' rp4 rl4 p4
theorem qt_not (ha : QT X W a ta) : QT X W (.UnaryOp .Not a pos) (mNot ta) := (pt_not ha).imp fun σ H Q q => by
  obtain ⟨r, s, h, rp, rs, p⟩ := tM.bind (rr1 := rB) (m := ta) (k := fun s b h => .ok (!b) h) q
  exact ⟨r, s, h, rp, rs, p.imp fun x H1 ⟨r1, s1, a, h1, rp1, rs1, rl1, p1⟩ => by cases rl1; exact Post.here (rr := rB) p1 rp1 rfl⟩
theorem qw_one (ha : QT X W a ta) : QW X W (.BoolOp .And [a] pos) ta := pw_and1 ha
theorem qw_one' (ha : QT X W a ta) : QW X W (.BoolOp .Or [a] pos) ta := pw_or1 ha
theorem qw_and (ha : QT X W a ta) (hb : QW X W (.BoolOp .And (b :: rest) pos) tb) : QW X W (.BoolOp .And (a :: b :: rest) pos) (mAnd ta tb) := (pw_and ha hb).imp fun σ H Q q => by
  obtain ⟨r, s, h, rp, rs, p⟩ := tM.bind (rr1 := rB) (m := ta) (k := fun s x h => bif x then tb s h else .ok false h) q
  refine ⟨r, s, h, rp, rs, p.imp fun x H1 ⟨r1, s1, d, h1, rp1, rs1, rl1, p1⟩ => ?_⟩
  cases rl1
  cases x with
  | true => exact ⟨r1, s1, h1, rp1, rs1, p1⟩
  | false => exact Post.here (rr := rB) p1 rp1 rfl
theorem qw_or (ha : QT X W a ta) (hb : QW X W (.BoolOp .Or (b :: rest) pos) tb) : QW X W (.BoolOp .Or (a :: b :: rest) pos) (mOr ta tb) := (pw_or ha hb).imp fun σ H Q q => by
  obtain ⟨r, s, h, rp, rs, p⟩ := tM.bind (rr1 := rB) (m := ta) (k := fun s x h => bif x then .ok true h else tb s h) q
  refine ⟨r, s, h, rp, rs, p.imp fun x H1 ⟨r1, s1, d, h1, rp1, rs1, rl1, p1⟩ => ?_⟩
  cases rl1
  cases x with
  | true => exact Post.here (rr := rB) p1 rp1 rfl
  | false => exact ⟨r1, s1, h1, rp1, rs1, p1⟩
theorem qt_w (h : QW X W a ta) : QT X W a ta := h.pt
theorem qe_ifExp (hc : QT X W c ta) (ha : QE X W a ma) (hb : QE X W b mb) : QE X W (.IfExp c a b pos) (mIfE ta ma mb) := (pe_ifExp hc ha hb).imp fun σ H Q q => by
  obtain ⟨r, s, h, rp, rs, p⟩ := tM.bind (rr1 := rB) (m := ta) (k := fun s x h => bif x then ma s h else mb s h) q
  refine ⟨r, s, h, rp, rs, p.imp fun x H1 ⟨r1, s1, d, h1, rp1, rs1, rl1, p1⟩ => ?_⟩
  cases rl1
  cases x with
  | true => exact ⟨r1, s1, h1, rp1, rs1, p1⟩
  | false => exact ⟨r1, s1, h1, rp1, rs1, p1⟩
theorem qe_one {op} (ha : QE X W a ma) : QE X W (.BoolOp op [a] pos) ma := pe_one ha
theorem bl_bind {γ δ : Type} {rr : RR γ δ} {σ : L2.St} {H : Hp} {Q : δ → Hp → Prop} {k : SD → Bool → HP → R γ} (q : tM X.K X.mg rr W (fun s h => ((ma s h).bind kBl).bind (k s)) σ H Q) :
    tM X.K X.mg rD W ma σ H (fun v H1 => ∃ b, v = .bl b ∧ ∃ r1 s h1, Rep X.K X.mg r1 h1 H1 ∧ RelSt X.K X.mg r1 H1 s σ ∧ Post X.K X.mg rr W r1 σ H1 Q (k s b h1)) := by
  have q' : tM X.K X.mg rr W (fun s h => (ma s h).bind fun x h => (kBl x h).bind (k s)) σ H Q := by
    obtain ⟨r, s, h, rp, rs, p⟩ := q
    refine ⟨r, s, h, rp, rs, ?_⟩
    dsimp only at p ⊢
    rw [bind_bind] at p
    exact p
  obtain ⟨r, s, h, rp, rs, p⟩ := tM.bind (rr1 := rD) (m := ma) (k := fun s x h => (kBl x h).bind (k s)) q'
  refine ⟨r, s, h, rp, rs, p.imp fun x H1 ⟨r1, s1, d, h1, rp1, rs1, rl1, p1⟩ => ?_⟩
  obtain ⟨b, e, p2⟩ := bool_of rp1 rl1 p1
  exact ⟨b, e, r1, s1, h1, rp1, rs1, p2⟩
theorem qe_and (ha : QE X W a ma) (hb : QE X W (.BoolOp .And (b :: rest) pos) mb) : QE X W (.BoolOp .And (a :: b :: rest) pos) (mAndV ma mb) := (pe_and ha hb).imp fun σ H Q q => by
  obtain ⟨r, s, h, rp, rs, p⟩ := bl_bind (ma := ma) (k := fun s x h => bif x then mb s h else .ok (.bl false) h) q
  refine ⟨r, s, h, rp, rs, p.imp fun x H1 ⟨b, e, r1, s1, h1, rp1, rs1, p1⟩ => ⟨b, e, ?_⟩⟩
  cases b with
  | true => exact ⟨r1, s1, h1, rp1, rs1, p1⟩
  | false => exact Post.here (rr := rD) p1 rp1 (.bl false)
theorem qe_or (ha : QE X W a ma) (hb : QE X W (.BoolOp .Or (b :: rest) pos) mb) : QE X W (.BoolOp .Or (a :: b :: rest) pos) (mOrV ma mb) := (pe_or ha hb).imp fun σ H Q q => by
  obtain ⟨r, s, h, rp, rs, p⟩ := bl_bind (ma := ma) (k := fun s x h => bif x then .ok (.bl true) h else mb s h) q
  refine ⟨r, s, h, rp, rs, p.imp fun x H1 ⟨b, e, r1, s1, h1, rp1, rs1, p1⟩ => ⟨b, e, ?_⟩⟩
  cases b with
  | true => exact Post.here (rr := rD) p1 rp1 (.bl true)
  | false => exact ⟨r1, s1, h1, rp1, rs1, p1⟩
theorem qe_not (ha : QE X W a ma) : QE X W (.UnaryOp .Not a pos) (mNotV ma) := (pe_not ha).imp fun σ H Q q => by
  obtain ⟨r, s, h, rp, rs, p⟩ := bl_bind (ma := ma) (k := fun s x h => R.ok (D.bl (!x)) h) q
  exact ⟨r, s, h, rp, rs, p.imp fun x H1 ⟨b, e, r1, s1, h1, rp1, rs1, p1⟩ => ⟨b, e, Post.here (rr := rD) p1 rp1 (.bl _)⟩⟩

/-! lists of arguments, displays -/
theorem qa_nil : QA X W [] mNil := pa_nil.imp fun σ H Q ⟨r, s, h, rp, rs, p⟩ => Post.here (rr := rDs) p rp .nil
theorem qa_cons (ha : QE X W e ma) (ht : QA X W es t) (hs : starEach (e :: es) X.env = (false, eval e X.env) :: starEach es X.env := by rfl) : QA X W (e :: es) (mCons ma t) := (pa_cons ha ht hs).imp fun σ H Q q => by
  obtain ⟨r, s, h, rp, rs, p⟩ := tM.bind (rr1 := rD) (m := ma) (k := fun s x h => (t s h).bind fun xs h => .ok (x :: xs) h) q
  refine ⟨r, s, h, rp, rs, p.imp fun x H1 ⟨r1, s1, a, h1, rp1, rs1, rl1, p1⟩ => ?_⟩
  refine ⟨r1, s1, h1, rp1, rs1, (Post.bind (rr1 := rDs) p1).imp fun y H2 ⟨r2, b, h2, e2, k2, rp2, rl2, p2⟩ => ?_⟩
  exact Post.here (rr := rDs) p2 rp2 (.cons (rl1.mono e2 k2) rl2)
theorem qe_tup {x1} (ht : QA X W es t) : QE X W (.Tuple es x1 pos) (mTup t) := (pe_tup ht).imp fun σ H Q q => by
  obtain ⟨r, s, h, rp, rs, p⟩ := tM.bind (rr1 := rDs) (m := t) (k := fun s xs h => if xs.length ≤ 1000000 then .ok (D.tup xs) h else .bad) q
  refine ⟨r, s, h, rp, rs, p.imp fun x H1 ⟨r1, s1, a, h1, rp1, rs1, rl1, p1⟩ => ?_⟩
  by_cases hz : a.length ≤ 1000000
  · rw [if_pos hz] at p1
    exact ⟨line_of (by rw [← rl1.length]; exact hz), fun p hp => p1 r1 _ _ (Ext.refl _) (Keep.new hp) (rp1.fresh hp) (.tup upd_same (rl1.mono (Ext.refl _) (Keep.new hp)))⟩
  · rw [if_neg hz] at p1; exact p1.elim
theorem qe_lst (ht : QA X W es t) : QE X W (.List es pos) (mLst t) := (pe_lst ht).imp fun σ H Q q => by
  obtain ⟨r, s, h, rp, rs, p⟩ := tM.bind (rr1 := rDs) (m := t) (k := fun s xs h => if xs.length ≤ 1000000 then .ok (D.ref h.length) (h ++ [.lst xs]) else .bad) q
  refine ⟨r, s, h, rp, rs, p.imp fun x H1 ⟨r1, s1, a, h1, rp1, rs1, rl1, p1⟩ => ?_⟩
  by_cases hz : a.length ≤ 1000000
  · rw [if_pos hz] at p1
    exact ⟨line_of (by rw [← rl1.length]; exact hz), fun p hp => PostV.lst (h := h1) (show PostV X.K X.mg r1 H1 Q (some (.ref h1.length, h1 ++ [.lst a])) from p1) rp1 rl1 hp⟩
  · rw [if_neg hz] at p1; exact p1.elim

/-! slices -/
theorem qo_none : QO X W none mNoPart := po_none.imp fun σ H Q ⟨r, s, h, rp, rs, p⟩ => Post.here (rr := rOI) p rp rfl
theorem qo_some (ha : QE X W a ma) : QO X W (some a) (mPart ma) := (po_some ha).imp fun σ H Q q => by
  obtain ⟨r, s, h, rp, rs, p⟩ := tM.bind (rr1 := rD) (m := ma) (k := fun s => kInt) q
  refine ⟨r, s, h, rp, rs, p.imp fun x H1 ⟨r1, s1, a, h1, rp1, rs1, rl1, p1⟩ => ?_⟩
  cases rl1 with
  | int i => exact ⟨i, rfl, Post.here (rr := rOI) p1 rp1 rfl⟩
  | _ => exact p1.elim
def rVsl (K : PySem.W.Frag) (mg : Str → Option Value) (g : D → Option Int → Option Int → HP → Option (D × HP)) : V → Option Int → Option Int → Hp → VK → Prop := fun x lo hi H Q => ∃ r d h, Rep K mg r h H ∧ RelD K mg r H d x ∧ PostV K mg r H Q (g d lo hi h)
theorem qe_slice {g : D → Option Int → Option Int → HP → Option (D × HP)} {lo hi : Option Expr} {ml mh : MO} {p2 : Pos} (hr : SlR X (rVsl X.K X.mg g)) (ha : QE X W a ma) (hl : QO X W lo ml) (hh : QO X W hi mh) :
    QE X W (.Subscript a (.Slice lo hi none p2) pos) (mSl g ma ml mh) := (pe_slice hr ha hl hh).imp fun σ H Q q => by
  obtain ⟨r, s, h, rp, rs, p⟩ := tM.bind (rr1 := rD) (m := ma) (k := fun s x h => (ml s h).bind fun lo h => (mh s h).bind fun hi h => ofO (g x lo hi h)) q
  refine ⟨r, s, h, rp, rs, p.imp fun x H1 ⟨r1, s1, a, h1, rp1, rs1, rl1, p1⟩ => ?_⟩
  refine ⟨r1, s1, h1, rp1, rs1, (Post.bind (rr1 := rOI) p1).imp fun y H2 ⟨r2, b, h2, e2, k2, rp2, rl2, p2⟩ => ?_⟩
  refine ⟨r2, s1, h2, rp2, rs1.mono e2 k2, (Post.bind (rr1 := rOI) p2).imp fun z H3 ⟨r3, c, h3, e3, k3, rp3, rl3, p3⟩ => ?_⟩
  cases rl2
  cases rl3
  exact ⟨r3, a, h3, rp3, rl1.mono (e2.trans e3) (k2.trans k3), p3.ofO⟩

/-! calls of built-ins, methods of built-ins -/
theorem qe_callB {g : List D → HP → Option (D × HP)} {x : Str} {p : Pos} {id : String} (hc : CallR X (.builtin id) (rVs X.K X.mg g)) (hg : Gl X x) (hm : X.mg x = none) (hv : bootBuiltins x = some (.builtin id)) (ha : QA X W (e :: es) t) (hn : x ≠ "__name__" := by decide) (hdb : (x == ("__debug__" : Str)) = false := by decide)
    (he : starEach (e :: es) X.env = (false, eval e X.env) :: starEach es X.env := by rfl) (hpl : (backTo pos (starEach es X.env)).any (·.1) = false := by rfl) : QE X W (.Call (.Name x p) (e :: es) [] pos) (mB g t) :=
  (pe_callB hc hg hm hv ha hn hdb he hpl).imp fun σ H Q q => by
    obtain ⟨r, s, h, rp, rs, p⟩ := tM.bind (rr1 := rDs) (m := t) (k := fun s xs h => ofO (g xs h)) q
    exact ⟨r, s, h, rp, rs, p.imp fun x H1 ⟨r1, s1, a, h1, rp1, rs1, rl1, p1⟩ => ⟨r1, a, h1, rp1, rl1, p1.ofO⟩⟩
theorem qe_callTy {g : List D → HP → Option (D × HP)} {x : Str} {p : Pos} {T : String} (hc : CallR X (.type T) (rVs X.K X.mg g)) (hg : Gl X x) (hm : X.mg x = none) (hv : bootBuiltins x = some (.type T)) (ha : QA X W (e :: es) t) (hn : x ≠ "__name__" := by decide) (hdb : (x == ("__debug__" : Str)) = false := by decide)
    (he : starEach (e :: es) X.env = (false, eval e X.env) :: starEach es X.env := by rfl) (hpl : (backTo pos (starEach es X.env)).any (·.1) = false := by rfl) : QE X W (.Call (.Name x p) (e :: es) [] pos) (mB g t) :=
  (pe_callTy hc hg hm hv ha hn hdb he hpl).imp fun σ H Q q => by
    obtain ⟨r, s, h, rp, rs, p⟩ := tM.bind (rr1 := rDs) (m := t) (k := fun s xs h => ofO (g xs h)) q
    exact ⟨r, s, h, rp, rs, p.imp fun x H1 ⟨r1, s1, a, h1, rp1, rs1, rl1, p1⟩ => ⟨r1, a, h1, rp1, rl1, p1.ofO⟩⟩
/-- o.m(e, ..), m a built-in type's method. ty: of what type the receiver must be -/
def tyD (T : String) (d : D) (h : HP) : Prop := match d with
  | .str _ => T = "str"
  | .ref i => (T = "list" ∧ ∃ xs, h[i]? = some (.lst xs)) ∨ (T = "dict" ∧ ∃ xs, h[i]? = some (.dic xs))
  | .tup _ => T = "tuple"
  | _ => False
end
end PM
end
section
set_option Elab.async false
set_option linter.all false
set_option maxRecDepth 100000
set_option maxHeartbeats 1000000
namespace PM
open PySem PySem.Spec PyProof.Rows L2

section
variable {K : PySem.W.Frag} {mg : Str → Option Value} {r r' r1 : List Addr} {H H' H1 : Hp} {h : HP} {s : SD} {σ : L2.St} {α β γ δ : Type} {W : WX} {D0 : Ends}

def PostS (K : PySem.W.Frag) (mg : Str → Option Value) (W : WX) (r : List Addr) (H : Hp) (D0 : Ends) (x : RS) : Prop := match x with
  | .nx s' h' => ∀ r' σ' H', Ext r r' → Keep H H' → Rep K mg r' h' H' → RelSt K mg r' H' s' σ' → D0.nx σ' H'
  | .bk s' h' => ∀ r' σ' H', Ext r r' → Keep H H' → Rep K mg r' h' H' → RelSt K mg r' H' s' σ' → D0.bk σ' H'
  | .ct s' h' => ∀ r' σ' H', Ext r r' → Keep H H' → Rep K mg r' h' H' → RelSt K mg r' H' s' σ' → D0.ct σ' H'
  | .rt d h' => ∀ r' v H', Ext r r' → Keep H H' → Rep K mg r' h' H' → RelD K mg r' H' d v → D0.rt v H'
  | .exc s' c fs h' => ∀ r' σ' cls dd H', Ext r r' → Keep H H' → Rep K mg r' h' H' → RelSt K mg r' H' s' σ' → XRel K mg r' H' c fs cls dd → W cls dd σ' H'
  | .bad => False
def tS (K : PySem.W.Frag) (mg : Str → Option Value) (W : WX) (m : MS) : TS := fun D0 σ H => ∃ r s h, Rep K mg r h H ∧ RelSt K mg r H s σ ∧ PostS K mg W r H D0 (m s h)

theorem PostS.mono {x : RS} (p : PostS K mg W r H D0 x) (e : Ext r r1) (k : Keep H H1) : PostS K mg W r1 H1 D0 x := by
  cases x with
  | nx s' h' => exact fun r' σ' H' e' k' => p r' σ' H' (e.trans e') (k.trans k')
  | bk s' h' => exact fun r' σ' H' e' k' => p r' σ' H' (e.trans e') (k.trans k')
  | ct s' h' => exact fun r' σ' H' e' k' => p r' σ' H' (e.trans e') (k.trans k')
  | rt d h' => exact fun r' v H' e' k' => p r' v H' (e.trans e') (k.trans k')
  | exc s' c fs h' => exact fun r' σ' cls dd H' e' k' => p r' σ' cls dd H' (e.trans e') (k.trans k')
  | bad => exact p
theorem PostS.here {s' : SD} {h' : HP} (p : PostS K mg W r H D0 (.nx s' h')) (rp : Rep K mg r h' H) (rs : RelSt K mg r H s' σ) : D0.nx σ H := p r σ H (Ext.refl r) (Keep.refl H) rp rs
/-- an expression, then a step -/
theorem PostS.ofE {rr : RR α β} {x : R α} {k : α → HP → RS} (rs : RelSt K mg r H s σ) (p : PostS K mg W r H D0 (x.toS s k)) :
    Post K mg rr W r σ H (fun b H1 => ∃ r1 a h1, Ext r r1 ∧ Keep H H1 ∧ Rep K mg r1 h1 H1 ∧ rr.rel K mg r1 H1 a b ∧ PostS K mg W r1 H1 D0 (k a h1)) x := by
  cases x with
  | ok a h' => exact fun r' b H' e' k' rp rl => ⟨r', a, h', e', k', rp, rl, PostS.mono p e' k'⟩
  | exc c fs h' => exact fun r' cls dd H' e' k' rp xr => p r' σ cls dd H' e' k' rp (rs.mono e' k') xr
  | bad => exact p
theorem tS.ofE {rr : RR α β} {m : SD → HP → R α} {k : SD → α → HP → RS} (t : tS K mg W (fun s h => (m s h).toS s (k s)) D0 σ H) :
    tM K mg rr W m σ H (fun b H1 => ∃ r1 s a h1, Rep K mg r1 h1 H1 ∧ RelSt K mg r1 H1 s σ ∧ rr.rel K mg r1 H1 a b ∧ PostS K mg W r1 H1 D0 (k s a h1)) := by
  obtain ⟨r, s, h, rp, rs, p⟩ := t
  exact ⟨r, s, h, rp, rs, (PostS.ofE (rr := rr) rs p).imp fun b H' ⟨r1, a, h1, e, k, rp, rl, q⟩ => ⟨r1, s, a, h1, rp, rs.mono e k, rl, q⟩⟩
theorem PostS.seq {x : RS} {k : MS} (p : PostS K mg W r H D0 (x.seq k)) : PostS K mg W r H { D0 with nx := fun σ' H' => tS K mg W k D0 σ' H' } x := by
  cases x with
  | nx s' h' => exact fun r' σ' H' e' k' rp rs => ⟨r', s', h', rp, rs, PostS.mono p e' k'⟩
  | bk s' h' => exact p
  | ct s' h' => exact p
  | rt d h' => exact p
  | exc s' c fs h' => exact p
  | bad => exact p
end

/-! ### statements of plain code -/
abbrev MG := D → SD → Option SD
def mNext : MS := fun s h => .nx s h
def mSeq (a b : MS) : MS := fun s h => (a s h).seq b
def mSet (i : Nat) (a : ME) : MS := fun s h => (a s h).toS s fun d h => .nx (s.set i (some d)) h
def ofS (x : Option SD) (h : HP) : RS := match x with
  | some s => .nx s h
  | none => .bad
def mAsg (g : MG) (a : ME) : MS := fun s h => (a s h).toS s fun d h => ofS (g d s) h
def mDrop (a : ME) : MS := fun s h => (a s h).toS s fun _ h => .nx s h
def mRet (a : ME) : MS := fun s h => (a s h).toS s fun d h => .rt d h
def mRetN : MS := fun _ h => .rt .non h
def mIfS (c : MT) (a b : MS) : MS := fun s h => (c s h).toS s fun x h => bif x then a s h else b s h
def mBreak : MS := fun s h => .bk s h
def mCont : MS := fun s h => .ct s h
def mBad : MS := fun _ _ => .bad
def mAug (i : Nat) (g : D → D → HP → Option (D × HP)) (a : ME) : MS := fun s h => match s[i]? with
  | some (some x) => (a s h).toS s fun y h => (ofO (g x y h)).toS s fun z h => .nx (s.set i (some z)) h
  | _ => .bad
def gN (i : Nat) : MG := fun d s => some (s.set i (some d))
def gNil : List D → SD → Option SD := fun ds s => match ds with
  | [] => some s
  | _ => none
def gCons (g : MG) (t : List D → SD → Option SD) : List D → SD → Option SD := fun ds s => match ds with
  | d :: ds => (g d s).bind fun s => t ds s
  | [] => none
def gTup (n : Nat) (t : List D → SD → Option SD) : MG := fun d s => match d with
  | .tup ds => if ds.length = n then t ds s else none
  | .stp ds => if ds.length = n then t ds s else none
  | _ => none
def wN : Nat := 1000000000
def mWhileN : Nat → MT → MS → MS
  | 0, _, _ => fun _ _ => .bad
  | n + 1, c, b => fun s h => (c s h).toS s fun x h => bif x then (match b s h with
      | .nx s h => mWhileN n c b s h
      | .ct s h => mWhileN n c b s h
      | .bk s h => .nx s h
      | .rt d h => .rt d h
      | .exc s c fs h => .exc s c fs h
      | .bad => .bad) else .nx s h
@[irreducible] def mWhile (c : MT) (b : MS) : MS := mWhileN wN c b
/-- what is walked: the items, and what must stay so while they are walked -/
abbrev MI := SD → HP → R (List D × (HP → Prop))
open Classical in
noncomputable def mLoop (G : HP → Prop) (g : MG) (b : MS) : List D → MS
  | [] => fun s h => if G h then .nx s h else .bad
  | d :: ds => fun s h => if G h then (match g d s with
      | none => .bad
      | some s => match b s h with
        | .nx s h => mLoop G g b ds s h
        | .ct s h => mLoop G g b ds s h
        | .bk s h => .nx s h
        | .rt d h => .rt d h
        | .exc s c fs h => .exc s c fs h
        | .bad => .bad) else .bad
noncomputable def mFor (it : MI) (g : MG) (b : MS) : MS := fun s h => (it s h).toS s fun x h => mLoop x.2 g b x.1 s h

section
variable {X : Cx} {W : WX} {a b c e : Expr} {st : Stmt} {es rest : List Expr} {sts : List Stmt} {ma mb mc : ME} {ta tb : MT} {t : MA} {pos pos' : Pos} {ms mt : MS}
abbrev QS (X : Cx) (W : WX) (st : Stmt) (m : MS) : Prop := PS X st (tS X.K X.mg W m)
abbrev QSs (X : Cx) (W : WX) (st : List Stmt) (m : MS) : Prop := PSs X st (tS X.K X.mg W m)

theorem qss_nil : QSs X W [] mNext := pss_nil.imp fun D0 σ H ⟨r, s, h, rp, rs, p⟩ => p.here rp rs
theorem qss_cons (h1 : QS X W st ms) (h2 : QSs X W sts mt) : QSs X W (st :: sts) (mSeq ms mt) := (pss_cons h1 h2).imp fun D0 σ H ⟨r, s, h, rp, rs, p⟩ => ⟨r, s, h, rp, rs, p.seq⟩
theorem qss_one (h1 : QS X W st ms) : QSs X W [st] ms := pss_one h1
theorem qs_pass : QS X W (.Pass pos) mNext := ps_pass.imp fun D0 σ H ⟨r, s, h, rp, rs, p⟩ => p.here rp rs
theorem qs_never : QS X W st mBad := ps_never.imp fun D0 σ H ⟨r, s, h, rp, rs, p⟩ => p.elim
theorem qs_break : QS X W (.Break pos) mBreak := ps_break.imp fun D0 σ H ⟨r, s, h, rp, rs, p⟩ => p r σ H (Ext.refl r) (Keep.refl H) rp rs
theorem qs_continue : QS X W (.Continue pos) mCont := ps_continue.imp fun D0 σ H ⟨r, s, h, rp, rs, p⟩ => p r σ H (Ext.refl r) (Keep.refl H) rp rs
theorem qs_set {i : Nat} {x : Str} (hN : X.N.Nodup) (ha : QE X W e ma) (hi : X.N[i]? = some x := by rfl) (hx : Loc X.env.scope x := by first | exact .inl rfl | exact .inr rfl) (hs : swapsWith e (some (.Name x pos')) pos.line X.env = pure false := by rfl)
    (hf : X.fn x = true ∨ X.env.scope.names.lookup x = some .local := by first | exact .inl rfl | exact .inr rfl) : QS X W (.Assign [.Name x pos'] e pos) (mSet i ma) :=
  (ps_set (i := i) hN hi hx ha hs hf).imp fun D0 σ H q => by
    obtain ⟨r, s, h, rp, rs, p⟩ := tS.ofE (rr := rD) (m := ma) (k := fun s d h => RS.nx (s.set i (some d)) h) q
    exact ⟨r, s, h, rp, rs, p.imp fun v H1 ⟨r1, s1, d, h1, rp1, rs1, rl1, p1⟩ => p1.here rp1 (rs1.set i rl1)⟩
theorem qs_drop (ha : QE X W e ma) (hs : swapsWith e none pos.line X.env = pure false := by rfl) : QS X W (.Expr e pos) (mDrop ma) := (ps_expr ha hs).imp fun D0 σ H q => by
  obtain ⟨r, s, h, rp, rs, p⟩ := tS.ofE (rr := rD) (m := ma) (k := fun s d h => RS.nx s h) q
  exact ⟨r, s, h, rp, rs, p.imp fun v H1 ⟨r1, s1, d, h1, rp1, rs1, rl1, p1⟩ => p1.here rp1 rs1⟩
theorem qs_ret (ha : QE X W e ma) : QS X W (.Return (some e) pos) (mRet ma) := (ps_ret ha).imp fun D0 σ H q => by
  obtain ⟨r, s, h, rp, rs, p⟩ := tS.ofE (rr := rD) (m := ma) (k := fun s d h => RS.rt d h) q
  exact ⟨r, s, h, rp, rs, p.imp fun v H1 ⟨r1, s1, d, h1, rp1, rs1, rl1, p1⟩ => p1 r1 v H1 (Ext.refl _) (Keep.refl _) rp1 rl1⟩
theorem qs_retN : QS X W (.Return none pos) mRetN := ps_retN.imp fun D0 σ H ⟨r, s, h, rp, rs, p⟩ => p r _ H (Ext.refl _) (Keep.refl _) rp .non
theorem qs_if {aa bb : List Stmt} (hc : QT X W c ta) (ha : QSs X W aa ms) (hb : QSs X W bb mt) : QS X W (.If c aa bb pos) (mIfS ta ms mt) := (ps_if hc ha hb).imp fun D0 σ H q => by
  obtain ⟨r, s, h, rp, rs, p⟩ := tS.ofE (rr := rB) (m := ta) (k := fun s x h => bif x then ms s h else mt s h) q
  refine ⟨r, s, h, rp, rs, p.imp fun v H1 ⟨r1, s1, d, h1, rp1, rs1, rl1, p1⟩ => ?_⟩
  cases rl1
  cases v with
  | true => exact ⟨r1, s1, h1, rp1, rs1, p1⟩
  | false => exact ⟨r1, s1, h1, rp1, rs1, p1⟩
theorem qs_aug {i : Nat} {x : Str} {op : Operator} {g : D → D → HP → Option (D × HP)} (hN : X.N.Nodup) (ho : OpR X (inplaceOp op) (rV2 X.K X.mg g)) (ha : QE X W e ma) (hi : X.N[i]? = some x := by rfl) (hx : Loc X.env.scope x := by first | exact .inl rfl | exact .inr rfl)
    (hf : X.fn x = true ∨ X.env.scope.names.lookup x = some .local := by first | exact .inl rfl | exact .inr rfl) : QS X W (.AugAssign (.Name x pos') op e pos) (mAug i g ma) :=
  (ps_aug (i := i) (ti := rV2 X.K X.mg g) hN hi hx ha ho hf).imp fun D0 σ H ⟨r, s, h, rp, rs, p⟩ => by
    unfold mAug at p
    cases q : s[i]? with
    | none => rw [q] at p; exact p.elim
    | some o =>
      cases o with
      | none => rw [q] at p; exact p.elim
      | some d =>
        rw [q] at p
        obtain ⟨v, e1, e2⟩ := rs.at' i d q
        refine ⟨v, e1, r, s, h, rp, rs, (PostS.ofE (rr := rD) rs p).imp fun y H1 ⟨r1, b, h1, x1, k1, rp1, rl1, p1⟩ => ?_⟩
        refine ⟨r1, d, b, h1, rp1, e2.mono x1 k1, rl1, ?_⟩
        have p2 := PostS.ofE (rr := rD) (rs.mono x1 k1) p1
        have p3 := p2.ofO
        cases z : g d b h1 with
        | none => rw [z] at p3; exact p3.elim
        | some w =>
          obtain ⟨d2, h2⟩ := w
          rw [z] at p3
          exact fun r3 v3 H3 x3 k3 rp3 rl3 => by
            obtain ⟨r4, a4, h4, x4, k4, rp4, rl4, p4⟩ := p3 r3 v3 H3 x3 k3 rp3 rl3
            exact p4.here rp4 (((rs.mono x1 k1).mono x4 k4).set i rl4)

/-! targets -/
theorem _root_.L2.PG.imp {X : Cx} {e : Expr} {t t' : TG} (h : PG X e t) (f : ∀ v σ H Q, t' v σ H Q → t v σ H Q) : PG X e t' := ⟨fun pins s σ H v u Q I r q => h.run pins s σ H v u Q I r (f v σ H Q q)⟩
theorem _root_.L2.PGs.imp {X : Cx} {e : List Expr} {t t' : TGs} (h : PGs X e t) (f : ∀ v σ H Q, t' v σ H Q → t v σ H Q) : PGs X e t' := ⟨fun pins s σ H v u Q I r q => h.run pins s σ H v u Q I r (f v σ H Q q)⟩
def PostG (K : PySem.W.Frag) (mg : Str → Option Value) (r : List Addr) (H : Hp) (Q : L2.St → Hp → Prop) (x : Option SD) : Prop := match x with
  | some s => ∀ σ, RelSt K mg r H s σ → Q σ H
  | none => False
def rG (K : PySem.W.Frag) (mg : Str → Option Value) (g : MG) : TG := fun v σ H Q => ∃ r s d, RelSt K mg r H s σ ∧ RelD K mg r H d v ∧ PostG K mg r H Q (g d s)
def rGs (K : PySem.W.Frag) (mg : Str → Option Value) (g : List D → SD → Option SD) : TGs := fun vs σ H Q => ∃ r s ds, RelSt K mg r H s σ ∧ RelDs K mg r H ds vs ∧ PostG K mg r H Q (g ds s)
abbrev QG (X : Cx) (tg : Expr) (g : MG) : Prop := PG X tg (rG X.K X.mg g)
abbrev QGs (X : Cx) (tg : List Expr) (g : List D → SD → Option SD) : Prop := PGs X tg (rGs X.K X.mg g)
theorem qg_name {i : Nat} {x : Str} (hN : X.N.Nodup) (hi : X.N[i]? = some x := by rfl) (hx : Loc X.env.scope x := by first | exact .inl rfl | exact .inr rfl) (hf : X.fn x = true ∨ X.env.scope.names.lookup x = some .local := by first | exact .inl rfl | exact .inr rfl) :
    QG X (.Name x pos) (gN i) := (pg_name (i := i) hN hi hx hf).imp fun v σ H Q ⟨r, s, d, rs, rl, p⟩ => p _ (rs.set i rl)
theorem qgs_nil : QGs X [] gNil := pgs_nil.imp fun vs σ H Q ⟨r, s, ds, rs, rl, p⟩ => by
  cases rl with
  | nil => exact ⟨rfl, p σ rs⟩
  | cons _ _ => exact p.elim
theorem qgs_cons {g : MG} {t : List D → SD → Option SD} (h1 : QG X e g) (h2 : QGs X es t) (hs : (assignEach (e :: es) X.env).map (·.2) = assign e X.env :: (assignEach es X.env).map (·.2) := by rfl) : QGs X (e :: es) (gCons g t) :=
  (pgs_cons h1 h2 hs).imp fun vs σ H Q ⟨r, s, ds, rs, rl, p⟩ => by
    cases rl with
    | nil => exact p.elim
    | @cons d v ds' vs' rl1 rl2 =>
      refine ⟨v, vs', rfl, r, s, d, rs, rl1, ?_⟩
      show PostG X.K X.mg r H _ (g d s)
      have p' : PostG X.K X.mg r H Q ((g d s).bind fun s => t ds' s) := p
      cases z : g d s with
      | none => rw [z] at p'; exact p'.elim
      | some s2 =>
        rw [z] at p'
        exact fun σ2 rs2 => ⟨r, s2, ds', rs2, rl2, p'⟩
theorem qg_tup {n : Nat} {k : Nat} {t : List D → SD → Option SD} (hc : X.calm = true) (h : QGs X es t) (hn : (assignEach es X.env).length = n := by rfl) (hst : (assignEach es X.env).findIdx? (·.1) = none := by rfl) : QG X (.Tuple es k pos) (PM.gTup n t) := by
  refine (pg_tup (k := k) hc h hn hst).imp fun v σ H Q ⟨r, s, d, rs, rl, p⟩ => ?_
  cases rl with
  | @tup ds a vs sq0 rls =>
    have sq := SqT.of (K := X.K) sq0
    have p' : PostG X.K X.mg r H Q (if ds.length = n then t ds s else none) := p
    by_cases e : ds.length = n
    · rw [if_pos e] at p'
      exact ⟨a, vs, rfl, sq, by rw [← rls.length]; exact e, r, s, ds, rs, rls, p'⟩
    · rw [if_neg e] at p'; exact p'.elim
  | @stp ds a vs sq0 rls =>
    have sq := sq0.sq
    have p' : PostG X.K X.mg r H Q (if ds.length = n then t ds s else none) := p
    by_cases e : ds.length = n
    · rw [if_pos e] at p'
      exact ⟨a, vs, rfl, sq, by rw [← rls.length]; exact e, r, s, ds, rs, rls, p'⟩
    · rw [if_neg e] at p'; exact p'.elim
  | _ => exact p.elim
theorem qs_asg {tg : Expr} {g : MG} (ha : QE X W e ma) (hg : QG X tg g) (hs : swapsWithSole [tg] e pos.line X.env = pure false := by rfl) (hw : swappedStores [tg] e X.env = pure none := by rfl)
    (h1 : (assignEach [tg] X.env).map (·.2) = [assign tg X.env] := by rfl) : QS X W (.Assign [tg] e pos) (mAsg g ma) := (ps_asg ha hg hs hw h1).imp fun D0 σ H q => by
  obtain ⟨r, s, h, rp, rs, p⟩ := tS.ofE (rr := rD) (m := ma) (k := fun s d h => ofS (g d s) h) q
  refine ⟨r, s, h, rp, rs, p.imp fun v H1 ⟨r1, s1, d, h1, rp1, rs1, rl1, p1⟩ => ⟨r1, s1, d, rs1, rl1, ?_⟩⟩
  cases z : g d s1 with
  | none => rw [z] at p1; exact p1.elim
  | some s2 =>
    rw [z] at p1
    exact fun σ2 rs2 => p1.here rp1 rs2

/-! while -/
theorem PostS.loop {r : List Addr} {H : Hp} {D0 : Ends} {x : RS} {k : MS} (p : PostS X.K X.mg W r H D0 (match x with
      | .nx s h => k s h
      | .ct s h => k s h
      | .bk s h => .nx s h
      | .rt d h => .rt d h
      | .exc s c fs h => .exc s c fs h
      | .bad => .bad)) (N : L2.St → Hp → Prop) (hN : ∀ σ H, tS X.K X.mg W k D0 σ H → N σ H) : PostS X.K X.mg W r H { D0 with nx := N, ct := N, bk := D0.nx } x := by
  cases x with
  | nx s' h' => exact fun r' σ' H' e' k' rp rs => hN _ _ ⟨r', s', h', rp, rs, PostS.mono p e' k'⟩
  | bk s' h' => exact p
  | ct s' h' => exact fun r' σ' H' e' k' rp rs => hN _ _ ⟨r', s', h', rp, rs, PostS.mono p e' k'⟩
  | rt d h' => exact p
  | exc s' c fs h' => exact p
  | bad => exact p
theorem qs_while {body : List Stmt} (hp : PassesOwn (model X.prog X.w) X.A X.env X.xe) (hc : QT X W c ta) (hb : QSs X W body ms) : QS X W (.While c body [] pos) (mWhile ta ms) :=
  (ps_while hp hc hb).imp fun D0 σ H q => by
    refine ⟨fun n σ H => tS X.K X.mg W (mWhileN n ta ms) D0 σ H, ⟨wN, by unfold mWhile at q; exact q⟩, fun n σ H w => ?_⟩
    cases n with
    | zero => obtain ⟨_, _, _, _, _, p⟩ := w; exact p.elim
    | succ n =>
      obtain ⟨r, s, h, rp, rs, p⟩ := w
      refine ⟨r, s, h, rp, rs, (PostS.ofE (rr := rB) rs p).imp fun v H1 ⟨r1, b, h1, e1, k1, rp1, rl1, p1⟩ => ?_⟩
      cases rl1
      cases v with
      | true =>
        refine ⟨fun σ H => tS X.K X.mg W (mWhileN n ta ms) D0 σ H, fun σ' H' q => ⟨n, Nat.lt_succ_self n, q⟩, r1, s, h1, rp1, rs.mono e1 k1, ?_⟩
        exact PostS.loop p1 _ fun _ _ q => q
      | false => exact PostS.here p1 rp1 (rs.mono e1 k1)

/-! for -/
/-- the walk J gives the items ds while G holds -/
def JRel (K : PySem.W.Frag) (mg : Str → Option Value) (r0 : List Addr) (H0 : Hp) (J : It) (ds : List D) (G : HP → Prop) : Prop :=
  ∀ (i : Nat) (r : List Addr) (H : Hp) (h : HP), Ext r0 r → Keep H0 H → Rep K mg r h H → G h →
    (∀ d, ds[i]? = some d → J.go i H ∧ ∀ x H', J.yld i H x H' → Keep H H' ∧ Rep K mg r h H' ∧ RelD K mg r H' d x) ∧ (ds.length ≤ i → J.stop i H)
def PostI (K : PySem.W.Frag) (mg : Str → Option Value) (W : WX) (r : List Addr) (σ : L2.St) (H : Hp) (Q : It → Hp → Prop) (x : R (List D × (HP → Prop))) : Prop := match x with
  | .ok y h' => ∀ r' H' J, Ext r r' → Keep H H' → Rep K mg r' h' H' → JRel K mg r' H' J y.1 y.2 → Q J H'
  | .exc c fs h' => ∀ r' cls dd H', Ext r r' → Keep H H' → Rep K mg r' h' H' → XRel K mg r' H' c fs cls dd → W cls dd σ H'
  | .bad => False
def rIt (K : PySem.W.Frag) (mg : Str → Option Value) (W : WX) (m : MI) : TI := fun σ H Q => ∃ r s h, Rep K mg r h H ∧ RelSt K mg r H s σ ∧ PostI K mg W r σ H Q (m s h)
abbrev QI (X : Cx) (W : WX) (tg e : Expr) (m : MI) : Prop := PI X tg e (rIt X.K X.mg W m)
theorem _root_.L2.PI.imp {X : Cx} {tg e : Expr} {t t' : TI} (h : PI X tg e t) (f : ∀ σ H Q, t' σ H Q → t σ H Q) : PI X tg e t' := ⟨fun pins s σ H Q I q => h.run pins s σ H Q I (f σ H Q q)⟩
theorem loop_stop (G : HP → Prop) (g : MG) (b : MS) {ds : List D} {i : Nat} (hi : ds.length ≤ i) : mLoop G g b (ds.drop i) = mLoop G g b [] := by
  rw [List.drop_eq_nil_of_le hi]
theorem for_gen {K : PySem.W.Frag} {mg : Str → Option Value} {J : It} {ds : List D} {G : HP → Prop} {g : MG} {b : MS} {D0 : Ends} {r0 : List Addr} {s : SD} {h : HP} {σ : L2.St} {H0 : Hp}
    (j : JRel K mg r0 H0 J ds G) (rp : Rep K mg r0 h H0) (rs : RelSt K mg r0 H0 s σ) (p : PostS K mg W r0 H0 D0 (mLoop G g b ds s h)) :
    ∃ Wn : Nat → Nat → L2.St → Hp → Prop, (∃ m, Wn 0 m σ H0) ∧ ∀ i m σ H, Wn i m σ H → (J.stop i H ∧ D0.nx σ H) ∨ (J.go i H ∧ ∃ N : L2.St → Hp → Prop, (∀ σ' H', N σ' H' → ∃ m', m' < m ∧ Wn (i + 1) m' σ' H') ∧
      ∀ x H', J.yld i H x H' → rG K mg g x σ H' fun σ2 H2 => tS K mg W b { D0 with nx := N, ct := N, bk := D0.nx } σ2 H2) := by
  refine ⟨fun i m σ H => m = ds.length - i ∧ ∃ r s h, Ext r0 r ∧ Keep H0 H ∧ Rep K mg r h H ∧ RelSt K mg r H s σ ∧ PostS K mg W r H D0 (mLoop G g b (ds.drop i) s h), ⟨ds.length, by simp, r0, s, h, Ext.refl _, Keep.refl _, rp, rs, by simpa using p⟩, ?_⟩
  rintro i m σ H ⟨rfl, r, s, h, e, k, rp, rs, p⟩
  rcases Nat.lt_or_ge i ds.length with hi | hi
  · rw [List.drop_eq_getElem_cons hi] at p
    unfold mLoop at p
    by_cases hG : G h
    · rw [if_pos hG] at p
      obtain ⟨j1, _⟩ := j i r H h e k rp hG
      obtain ⟨go, y⟩ := j1 _ (List.getElem?_eq_getElem hi)
      refine .inr ⟨go, fun σ' H' => ∃ r s h, Ext r0 r ∧ Keep H0 H' ∧ Rep K mg r h H' ∧ RelSt K mg r H' s σ' ∧ PostS K mg W r H' D0 (mLoop G g b (ds.drop (i + 1)) s h), fun σ' H' q => ⟨ds.length - (i + 1), by omega, rfl, q⟩, fun x H' yl => ?_⟩
      obtain ⟨k1, rp1, rl1⟩ := y x H' yl
      refine ⟨r, s, _, rs.mono (Ext.refl _) k1, rl1, ?_⟩
      cases z : g ds[i] s with
      | none => rw [z] at p; exact p.elim
      | some s2 =>
        rw [z] at p
        refine fun σ2 rs2 => ⟨r, s2, h, rp1, rs2, ?_⟩
        have p2 : PostS K mg W r H' D0 _ := p.mono (Ext.refl r) k1
        dsimp only at p2
        cases w : b s2 h with
        | nx s' h' => rw [w] at p2; exact fun r' σ' H'' e' k' rp' rs' => ⟨r', s', h', e.trans e', (k.trans k1).trans k', rp', rs', PostS.mono p2 e' k'⟩
        | ct s' h' => rw [w] at p2; exact fun r' σ' H'' e' k' rp' rs' => ⟨r', s', h', e.trans e', (k.trans k1).trans k', rp', rs', PostS.mono p2 e' k'⟩
        | bk s' h' => rw [w] at p2; exact p2
        | rt d h' => rw [w] at p2; exact p2
        | exc s' c fs h' => rw [w] at p2; exact p2
        | bad => rw [w] at p2; exact p2
    · rw [if_neg hG] at p; exact p.elim
  · rw [loop_stop G g b hi] at p
    unfold mLoop at p
    by_cases hG : G h
    · rw [if_pos hG] at p
      exact .inl ⟨(j i r H h e k rp hG).2 hi, p.here rp rs⟩
    · rw [if_neg hG] at p; exact p.elim
theorem qs_for {tg iter : Expr} {body : List Stmt} {mi : MI} {g : MG} (hp : PassesOwn (model X.prog X.w) X.A X.env X.xe) (hc : X.calm = true) (hi : QI X W tg iter mi) (hg : QG X tg g) (hb : QSs X W body ms)
    (hs : ∀ x, foldedSetIterable iter X.env x = pure x := by intro _; rfl) : QS X W (.For tg iter body [] pos) (mFor mi g ms) := (ps_for hp hc hi hg hb hs).imp fun D0 σ H ⟨r, s, h, rp, rs, p⟩ => by
  refine ⟨r, s, h, rp, rs, ?_⟩
  unfold mFor at p
  cases z : mi s h with
  | ok y h' =>
    rw [z] at p
    exact fun r' H' J e k rp' j => for_gen j rp' (rs.mono e k) (PostS.mono p e k)
  | exc c fs h' => rw [z] at p; exact fun r' cls dd H' e' k' rp' xr => p r' σ cls dd H' e' k' rp' (rs.mono e' k') xr
  | bad => rw [z] at p; exact p
end
end PM
end
section
set_option Elab.async false
set_option linter.all false
set_option maxRecDepth 100000
set_option maxHeartbeats 1000000
namespace PM
open PySem PySem.Spec PyProof.Rows L2

/-! ### defs -/
/-- what a def does: its body from the arguments -/
def runDef (n : Nat) (body : MS) : List D → HP → R D := fun ds h => match body (ds.map some ++ List.replicate (n - ds.length) none) h with
  | .nx _ h => .ok .non h
  | .rt d h => .ok d h
  | .exc _ c fs h => .exc c fs h
  | _ => .bad
def PostC (K : PySem.W.Frag) (mg : Str → Option Value) (r : List Addr) (H : Hp) (Q : VK) (E : XK) (x : R D) : Prop := match x with
  | .ok d h' => ∀ r' v H', Ext r r' → Keep H H' → Rep K mg r' h' H' → RelD K mg r' H' d v → Q v H'
  | .exc c fs h' => ∀ r' cls dd H', Ext r r' → Keep H H' → Rep K mg r' h' H' → XRel K mg r' H' c fs cls dd → E cls dd H'
  | .bad => False
def spM (K : PySem.W.Frag) (mg : Str → Option Value) (np : Nat) (m : List D → HP → R D) : Sp := fun vs H Q E => ∃ r ds h, Rep K mg r h H ∧ RelDs K mg r H ds vs ∧ ds.length = np ∧ PostC K mg r H Q E (m ds h)

theorem start_get {N : List Str} {vs : List V} {i : Nat} {v : V} (e : vs[i]? = some v) : (L2.start N vs)[i]? = some (some v) := by
  unfold L2.start
  have hi : i < vs.length := (List.getElem?_eq_some_iff.mp e).1
  rw [List.getElem?_append_left (by simpa using hi), List.getElem?_map, e]; rfl
theorem relSt_start {K : PySem.W.Frag} {mg : Str → Option Value} {r : List Addr} {H : Hp} {N : List Str} {ds : List D} {vs : List V} (rl : RelDs K mg r H ds vs) : RelSt K mg r H (ds.map some ++ List.replicate (N.length - ds.length) none) (L2.start N vs) := by
  have hl := rl.length
  refine ⟨by unfold L2.start; simp [hl], fun i d e => ?_⟩
  by_cases hi : i < ds.length
  · rw [List.getElem?_append_left (by simpa using hi), List.getElem?_map] at e
    cases z : ds[i]? with
    | none => rw [z] at e; cases e
    | some d' =>
      rw [z] at e; cases e
      obtain ⟨v, e1, q⟩ := rl.get z
      exact ⟨v, start_get e1, q⟩
  · rw [List.getElem?_append_right (by simpa using hi), List.getElem?_replicate] at e
    split at e <;> cases e
/-- THE RULE of a def -/
theorem def_ok {P : Program} {w : World} {K : PySem.W.Frag} {mg : Str → Option Value} {base : Heap} {x qual : Str} {st : Stmt} {f : Addr} {fd : FuncData} {N ps : List Str} {k : Nat} {body : MS} (F : Fun K x qual st f fd) (S : FnScope N ps (defScope st))
    (hb : ∀ (cdv : Value) (A : Around) (outer : List Env) (s : Shared) (H : Hp) (E : XK), Room k (A.deeper (envOfC qual (defScope st) s.heap.objs.size f cdv)) →
      QSs (cxOf (L2.CX P w) P w K mg base N qual (defScope st) f cdv A outer s H E) (fun cls d _ H => E cls d H) (defBody st) body) :
    FnOk P w K mg base (L2.CX P w) (k + 1) f fd ps (spM K mg ps.length (runDef N.length body)) := by
  refine F.okX S (fun vs H Q E ⟨r, ds, h, rp, rl, hl, p⟩ => by rw [← rl.length]; exact hl) (fun cdv A outer s H vs Q E hr ⟨r, ds, h, rp, rl, hl, p⟩ => ?_)
  refine ⟨_, hb cdv A outer s H E hr, r, _, h, rp, relSt_start (N := N) rl, ?_⟩
  unfold runDef at p
  show PostS K mg _ r H _ (body (ds.map some ++ List.replicate (N.length - ds.length) none) h)
  cases z : body (ds.map some ++ List.replicate (N.length - ds.length) none) h with
  | nx s' h' => rw [z] at p; exact fun r' σ' H' e k rp' rs' => p r' .non H' e k rp' .non
  | rt d h' => rw [z] at p; exact fun r' v H' e k rp' rl' => p r' v H' e k rp' rl'
  | bk s' h' => rw [z] at p; exact p.elim
  | ct s' h' => rw [z] at p; exact p.elim
  | exc s' c fs h' => rw [z] at p; exact fun r' σ' cls dd H' e k rp' rs' xr => p r' cls dd H' e k rp' xr
  | bad => rw [z] at p; exact p.elim

theorem FnOk.sp {P : Program} {w : World} {K : PySem.W.Frag} {mg : Str → Option Value} {base : Heap} {CX : CXT} {k : Nat} {f : Addr} {fd : FuncData} {ps : List Str} {np : Nat} {m m' : List D → HP → R D} (F : FnOk P w K mg base CX k f fd ps (spM K mg np m))
    (e : ∀ ds h, ds.length = np → m' ds h = .bad ∨ m ds h = m' ds h) : FnOk P w K mg base CX k f fd ps (spM K mg np m') := F.imp fun vs H Q E ⟨r, ds, h, rp, rl, hl, p⟩ => ⟨r, ds, h, rp, rl, hl, by
  rcases e ds h hl with z | z
  · rw [z] at p; exact p.elim
  · rw [z]; exact p⟩

section
variable {X : Cx} {W : WX} {a b c e o : Expr} {st : Stmt} {es rest : List Expr} {sts : List Stmt} {ma mb mc : ME} {ta tb : MT} {t : MA} {pos pos' apos : Pos} {ms mt : MS}
variable {k : Nat} {f C : Addr} {fd : FuncData} {ps : List Str} {np : Nat} {m : List D → HP → R D} {x : Str} {p : Pos}
theorem callPost {K : PySem.W.Frag} {mg : Str → Option Value} {r : List Addr} {H : Hp} {σ : L2.St} {Q : VK} {x : R D} (p : Post K mg rD W r σ H Q x) : PostC K mg r H Q (fun cls d H => W cls d σ H) x := by
  cases x with
  | ok a h => exact p
  | exc c fs h => exact p
  | bad => exact p
theorem qe_call (F : FnOk X.prog X.w X.K X.mg X.base (L2.CX X.prog X.w) k f fd ps (spM X.K X.mg np m)) (hnp : np = (e :: es).length) (tk : Takes X W) (hr : Room k X.A) (hg : Gl X x) (hm : X.mg x = some (.ref f)) (hk : PySem.W.keepIn X.K (.ref f) = true) (hb : Binds X.K fd ps [])
    (ha : QA X W (e :: es) t) (ht : ∀ s h ds h', t s h = .ok ds h' → ds.length = (e :: es).length) (hdb : (x == ("__debug__" : Str)) = false := by decide) (he : starEach (e :: es) X.env = (false, eval e X.env) :: starEach es X.env := by rfl) (hpl : (backTo pos (starEach es X.env)).any (·.1) = false := by rfl) :
    QE X W (.Call (.Name x p) (e :: es) [] pos) (mCall m t) := (pe_callS F hr hg hm hk hb (fun σ => passAt tk σ) ha hdb he hpl).imp fun σ H Q q => by
  obtain ⟨r, s, h, rp, rs, p⟩ := q
  refine ⟨r, s, h, rp, rs, ?_⟩
  unfold mCall at p
  cases z : t s h with
  | ok ds h' =>
    rw [z] at p
    have hl := ht s h ds h' z
    exact fun r' vs H' e' k' rp' rl' => ⟨r', ds, h', rp', rl', by rw [hnp]; exact hl, callPost (Post.mono p e' k')⟩
  | exc c fs h' => rw [z] at p; exact p
  | bad => rw [z] at p; exact p.elim
theorem qe_call0 (F : FnOk X.prog X.w X.K X.mg X.base (L2.CX X.prog X.w) k f fd ps (spM X.K X.mg 0 m)) (tk : Takes X W) (hr : Room k X.A) (hg : Gl X x) (hm : X.mg x = some (.ref f)) (hk : PySem.W.keepIn X.K (.ref f) = true) (hb : Binds X.K fd ps [])
    (hdb : (x == ("__debug__" : Str)) = false := by decide) : QE X W (.Call (.Name x p) [] [] pos) (mCall m mNil) := by
  refine ⟨fun pins s σ H Q I q => ?_⟩
  refine wpAny_Call_Name_kw (ld_glob I hg hm ?_ hdb)
  obtain ⟨r, s0, h, rp, rs, p⟩ := q
  exact PySem.W.callWith_K0 I.kIn hk (run_fnS (us := []) (vs := []) (E := WE W) F hr hb (passAt tk σ) I .nil ⟨r, [], h, rp, .nil, rfl, callPost p⟩)
theorem len_nil : ∀ s h ds h', mNil s h = .ok ds h' → ds.length = 0 := fun s h ds h' e => by cases e; rfl
theorem len_cons {t : MA} {n : Nat} (q : ∀ s h ds h', t s h = .ok ds h' → ds.length = n) : ∀ s h ds h', mCons ma t s h = .ok ds h' → ds.length = n + 1 := fun s h ds h' e => by
  unfold mCons at e
  cases z : ma s h with
  | ok d h1 =>
    rw [z] at e
    have e : (t s h1).bind (fun xs h => R.ok (d :: xs) h) = .ok ds h' := e
    cases z2 : t s h1 with
    | ok xs h2 =>
      rw [z2] at e
      have e : R.ok (d :: xs) _ = .ok ds h' := e
      cases e
      rw [List.length_cons, q _ _ _ _ z2]
    | exc c fs h2 => rw [z2] at e; cases e
    | bad => rw [z2] at e; cases e
  | exc c fs h2 => rw [z] at e; cases e
  | bad => rw [z] at e; cases e

/-! ### what is walked -/
def itL : D → HP → R (List D × (HP → Prop)) := fun d h => match d with
  | .ref i => match h[i]? with
    | some (.lst xs) => .ok (xs, fun h => h[i]? = some (.lst xs)) h
    | some (.rdl xs) => .ok (xs, fun h => h[i]? = some (.rdl xs)) h
    | _ => .bad
  | _ => .bad
def iL (a : ME) : MI := fun s h => (a s h).bind itL
def itT : D → HP → R (List D × (HP → Prop)) := fun d h => match d with
  | .tup xs => .ok (xs, fun _ => True) h
  | .stp xs => .ok (xs, fun _ => True) h
  | _ => .bad
def iT (a : ME) : MI := fun s h => (a s h).bind itT
def itS : D → HP → R (List D × (HP → Prop)) := fun d h => match d with
  | .str x => .ok (x.cps.toList.map fun c => .str ⟨#[c]⟩, fun _ => True) h
  | _ => .bad
def iS (a : ME) : MI := fun s h => (a s h).bind itS
def itR1 : List D → HP → R (List D × (HP → Prop)) := fun ds h => match ds with
  | [.int n] => if -(2 ^ 62) ≤ n ∧ n < 2 ^ 62 then .ok ((List.range n.toNat).map fun (i : Nat) => .int (0 + i), fun _ => True) h else .bad
  | _ => .bad
def itR2 : List D → HP → R (List D × (HP → Prop)) := fun ds h => match ds with
  | [.int lo, .int hi] => if -(2 ^ 62) ≤ lo ∧ lo < 2 ^ 62 ∧ -(2 ^ 62) ≤ hi ∧ hi < 2 ^ 62 then .ok ((List.range (hi - lo).toNat).map fun (i : Nat) => .int (lo + i), fun _ => True) h else .bad
  | _ => .bad
def iR1 (a : MA) : MI := fun s h => (a s h).bind itR1
def iR2 (a : MA) : MI := fun s h => (a s h).bind itR2

theorem rIt.bind {α β : Type} {rr : RR α β} {K : PySem.W.Frag} {mg : Str → Option Value} {m : SD → HP → R α} {f : α → HP → R (List D × (HP → Prop))} {σ : L2.St} {H : Hp} {Q : It → Hp → Prop} (q : rIt K mg W (fun s h => (m s h).bind f) σ H Q) :
    tM K mg rr W m σ H (fun b H1 => ∃ r1 s a h1, Rep K mg r1 h1 H1 ∧ RelSt K mg r1 H1 s σ ∧ rr.rel K mg r1 H1 a b ∧ PostI K mg W r1 σ H1 Q (f a h1)) := by
  obtain ⟨r, s, h, rp, rs, p⟩ := q
  refine ⟨r, s, h, rp, rs, ?_⟩
  dsimp only at p
  cases z : m s h with
  | ok a h' =>
    rw [z] at p
    intro r' b H' e k rp' rl'
    refine ⟨r', s, a, h', rp', rs.mono e k, rl', ?_⟩
    have p : PostI K mg W r σ H Q (f a h') := p
    cases y : f a h' with
    | ok u h2 => rw [y] at p; exact fun r2 H2 J e2 k2 => p r2 H2 J (e.trans e2) (k.trans k2)
    | exc c fs h2 => rw [y] at p; exact fun r2 cls dd H2 e2 k2 => p r2 cls dd H2 (e.trans e2) (k.trans k2)
    | bad => rw [y] at p; exact p.elim
  | exc c fs h' => rw [z] at p; exact p
  | bad => rw [z] at p; exact p.elim

theorem sqL_lift {K : PySem.W.Frag} {H : Hp} {ad : Addr} {vs : List V} (q : (∃ ob, H ad = some (.frz ob (.lst vs))) ∨ SqL K (fun _ => none) ad vs) : SqL K H ad vs := by
  rcases q with ⟨ob, q⟩ | (q | ⟨ob, q⟩) | q
  · exact .inl (.inr ⟨ob, q⟩)
  · cases q
  · cases q
  · exact .inr q
/-- a list as it is read -/
theorem list_at {K : PySem.W.Frag} {mg : Str → Option Value} {r : List Addr} {h : HP} {H : Hp} {i : Nat} {ad : Addr} {xs : List D} (rp : Rep K mg r h H) (ea : r[i]? = some ad) (e : h[i]? = some (.lst xs) ∨ h[i]? = some (.rdl xs)) : ∃ vs, SqL K H ad vs ∧ RelDs K mg r H xs vs := by
  rcases e with e | e
  · obtain ⟨vs, q, rl⟩ := rp.obs i _ ad e ea
    exact ⟨vs, SqL.of q, rl⟩
  · obtain ⟨vs, q, rl⟩ := rp.obs i _ ad e ea
    exact ⟨vs, sqL_lift q, rl⟩
theorem jrel_list {K : PySem.W.Frag} {mg : Str → Option Value} {r0 : List Addr} {H0 : Hp} {i : Nat} {ad : Addr} {xs : List D} {G : HP → Prop} (ea : r0[i]? = some ad) (hG : ∀ h, G h → h[i]? = some (.lst xs) ∨ h[i]? = some (.rdl xs)) : JRel K mg r0 H0 (Itl K ad) xs G := by
  intro j r H h e k rp g
  obtain ⟨vs, sq, rl⟩ := list_at rp (e.get ea) (hG h g)
  refine ⟨fun d hd => ?_, fun hj => ⟨vs, sq, by rw [← rl.length]; exact hj⟩⟩
  obtain ⟨v, hv, rv⟩ := rl.get hd
  exact ⟨⟨vs, v, sq, hv⟩, fun y H' ⟨e1, e2⟩ => by subst e1; have := e2 vs sq; rw [hv] at this; cases this; exact ⟨Keep.refl _, rp, rv⟩⟩
theorem qi_list {tg : Expr} (ha : QE X W e ma) : QI X W tg e (iL ma) := (pi_list ha).imp fun σ H Q q => by
  obtain ⟨r, s, h, rp, rs, p⟩ := rIt.bind (rr := rD) (m := ma) (f := itL) q
  refine ⟨r, s, h, rp, rs, p.imp fun v H1 ⟨r1, s1, d, h1, rp1, rs1, rl1, p1⟩ => ?_⟩
  unfold itL at p1
  cases rl1 with
  | @ref i ad ea =>
    dsimp only at p1
    split at p1
    · rename_i xs hx
      obtain ⟨vs, sq, rl⟩ := list_at rp1 ea (.inl hx)
      exact ⟨ad, rfl, ⟨vs, sq⟩, p1 r1 H1 _ (Ext.refl _) (Keep.refl _) rp1 (jrel_list ea fun h g => .inl g)⟩
    · rename_i xs hx
      obtain ⟨vs, sq, rl⟩ := list_at rp1 ea (.inr hx)
      exact ⟨ad, rfl, ⟨vs, sq⟩, p1 r1 H1 _ (Ext.refl _) (Keep.refl _) rp1 (jrel_list ea fun h g => .inr g)⟩
    · exact p1.elim
  | _ => exact p1.elim
theorem qi_tup {tg : Expr} (ha : QE X W e ma) : QI X W tg e (iT ma) := (pi_tup ha).imp fun σ H Q q => by
  obtain ⟨r, s, h, rp, rs, p⟩ := rIt.bind (rr := rD) (m := ma) (f := itT) q
  refine ⟨r, s, h, rp, rs, p.imp fun v H1 ⟨r1, s1, d, h1, rp1, rs1, rl1, p1⟩ => ?_⟩
  unfold itT at p1
  cases rl1 with
  | @tup xs ad vs sq0 rl =>
    have sq := SqT.of (K := X.K) sq0
    refine ⟨ad, rfl, ⟨vs, sq⟩, p1 r1 H1 _ (Ext.refl _) (Keep.refl _) rp1 ?_⟩
    intro j r H h e k rp g
    refine ⟨fun d hd => ?_, fun hj => ⟨vs, k.sqT sq, by rw [← rl.length]; exact hj⟩⟩
    obtain ⟨v, hv, rv⟩ := rl.get hd
    exact ⟨⟨vs, v, k.sqT sq, hv⟩, fun y H' ⟨e1, e2⟩ => by subst e1; have := e2 vs (k.sqT sq); rw [hv] at this; cases this; exact ⟨Keep.refl _, rp, rv.mono e k⟩⟩
  | @stp xs ad vs sq0 rl =>
    have sq := sq0.sq
    refine ⟨ad, rfl, ⟨vs, sq⟩, p1 r1 H1 _ (Ext.refl _) (Keep.refl _) rp1 ?_⟩
    intro j r H h e k rp g
    refine ⟨fun d hd => ?_, fun hj => ⟨vs, k.sqT sq, by rw [← rl.length]; exact hj⟩⟩
    obtain ⟨v, hv, rv⟩ := rl.get hd
    exact ⟨⟨vs, v, k.sqT sq, hv⟩, fun y H' ⟨e1, e2⟩ => by subst e1; have := e2 vs (k.sqT sq); rw [hv] at this; cases this; exact ⟨Keep.refl _, rp, rv.mono e k⟩⟩
  | _ => exact p1.elim
theorem qi_str {tg : Expr} (ha : QE X W e ma) : QI X W tg e (iS ma) := (pi_str ha).imp fun σ H Q q => by
  obtain ⟨r, s, h, rp, rs, p⟩ := rIt.bind (rr := rD) (m := ma) (f := itS) q
  refine ⟨r, s, h, rp, rs, p.imp fun v H1 ⟨r1, s1, d, h1, rp1, rs1, rl1, p1⟩ => ?_⟩
  unfold itS at p1
  cases rl1 with
  | str z =>
    refine ⟨z, rfl, p1 r1 H1 _ (Ext.refl _) (Keep.refl _) rp1 ?_⟩
    intro j r H h e k rp g
    refine ⟨fun d hd => ?_, fun hj => ?_⟩
    · rw [List.getElem?_map, Array.getElem?_toList] at hd
      cases q : z.cps[j]? with
      | none => rw [q] at hd; cases hd
      | some c =>
        rw [q] at hd; cases hd
        have hj : j < z.cps.size := (Array.getElem?_eq_some_iff.mp q).1
        exact ⟨hj, fun y H' ⟨e1, c', e2, e3⟩ => by subst e1; rw [q] at e2; cases e2; subst e3; exact ⟨Keep.refl _, rp, .str _⟩⟩
    · show z.cps.size ≤ j
      simpa using hj
  | _ => exact p1.elim
theorem jrel_range {K : PySem.W.Frag} {mg : Str → Option Value} {r0 : List Addr} {H0 : Hp} {lo : Int} {n : Nat} : JRel K mg r0 H0 (Itr lo n) ((List.range n).map fun (i : Nat) => D.int (lo + i)) (fun _ => True) := by
  intro j r H h e k rp g
  refine ⟨fun d hd => ?_, fun hj => by show n ≤ j; simpa using hj⟩
  have hj : j < n := by
    have := (List.getElem?_eq_some_iff.mp hd).1
    simpa using this
  rw [List.getElem?_map, List.getElem?_range hj] at hd
  cases hd
  exact ⟨hj, fun y H' ⟨e1, e2⟩ => by subst e1; subst e2; exact ⟨Keep.refl _, rp, .int _⟩⟩
theorem qi_range1 {tg : Expr} {q0 : Pos} (hg : Gl X "range") (hm : X.mg "range" = none) (ha : QA X W [e] t) (hs : starEach [e] X.env = [(false, eval e X.env)] := by rfl) : QI X W tg (.Call (.Name "range" q0) [e] [] pos) (iR1 t) := (pi_range1 hg hm ha hs).imp fun σ H Q q => by
  obtain ⟨r, s, h, rp, rs, p⟩ := rIt.bind (rr := rDs) (m := t) (f := itR1) q
  refine ⟨r, s, h, rp, rs, p.imp fun v H1 ⟨r1, s1, ds, h1, rp1, rs1, rl1, p1⟩ => ?_⟩
  unfold itR1 at p1
  split at p1
  · rename_i n
    by_cases hn : -(2 ^ 62) ≤ n ∧ n < 2 ^ 62
    · rw [if_pos hn] at p1
      cases rl1 with
      | cons a b =>
        cases b
        cases a
        exact ⟨n, rfl, hn.1, hn.2, p1 r1 H1 _ (Ext.refl _) (Keep.refl _) rp1 jrel_range⟩
    · rw [if_neg hn] at p1; exact p1.elim
  · exact p1.elim
theorem qi_range2 {tg : Expr} {q0 : Pos} (hg : Gl X "range") (hm : X.mg "range" = none) (ha : QA X W [e, a] t) (hs : starEach [e, a] X.env = [(false, eval e X.env), (false, eval a X.env)] := by rfl) (hs2 : starEach [a] X.env = [(false, eval a X.env)] := by rfl) : QI X W tg (.Call (.Name "range" q0) [e, a] [] pos) (iR2 t) := (pi_range2 hg hm ha hs hs2).imp fun σ H Q q => by
  obtain ⟨r, s, h, rp, rs, p⟩ := rIt.bind (rr := rDs) (m := t) (f := itR2) q
  refine ⟨r, s, h, rp, rs, p.imp fun v H1 ⟨r1, s1, ds, h1, rp1, rs1, rl1, p1⟩ => ?_⟩
  unfold itR2 at p1
  split at p1
  · rename_i lo hi
    by_cases hn : -(2 ^ 62) ≤ lo ∧ lo < 2 ^ 62 ∧ -(2 ^ 62) ≤ hi ∧ hi < 2 ^ 62
    · rw [if_pos hn] at p1
      cases rl1 with
      | cons a b =>
        cases b with
        | cons b c =>
          cases c
          cases a
          cases b
          exact ⟨lo, hi, rfl, hn, p1 r1 H1 _ (Ext.refl _) (Keep.refl _) rp1 jrel_range⟩
    · rw [if_neg hn] at p1; exact p1.elim
  · exact p1.elim
end
end PM
end
section
set_option Elab.async false
set_option linter.all false
set_option maxRecDepth 100000
set_option maxHeartbeats 1000000
namespace PM
open PySem PySem.Spec PyProof.Rows L2

/-! ### enumerate(list, start = k) -/
/-- as Ite, the count from k -/
def ItF (K : PySem.W.Frag) (a : Addr) (k : Int) : It :=
  ⟨fun i H => ∃ (xs : List V) (x : V), SqL K H a xs ∧ xs[i]? = some x, fun i H v H' => ∃ T x, v = .ref T ∧ H T = none ∧ H' = upd H T (.tup [.int (k + (i : Int)), x]) ∧ ∀ xs, SqL K H a xs → xs[i]? = some x, fun i H => ∃ xs : List V, SqL K H a xs ∧ xs.length ≤ i⟩
theorem turn_enumF {P : Program} {w : World} {K : PySem.W.Frag} {elts : List Expr} {kk : Nat} {tpos : Pos} (a e it : Addr) (k : Int) :
    Turn P w K (.Tuple elts kk tpos) (ItF K a k) [e, it] e (fun i h => (∃ old, IsEnum h e it (k + ((i : Nat) : Int)) old) ∧ h.IsListIter it a i ∧ e ≠ it) where
  mem := List.mem_cons_self
  obj := fun i h st b hb => by
    obtain ⟨⟨old, he⟩, ⟨o, ho, _, hd⟩, _⟩ := st
    rcases List.mem_cons.mp hb with z | z
    · subst z; exact ⟨_, he, fun v q => nomatch q⟩
    · rw [List.mem_singleton.mp z]; exact ⟨o, ho, fun v q => by rw [hd] at q; cases q⟩
  keep := fun i h h' st kp => ⟨let ⟨old, he⟩ := st.1; ⟨old, kp e (by simp) _ he⟩, st.2.1.at fun o q => kp it (by simp) o q, st.2.2⟩
  item := by
    intro X hP hw hK hc i pins s σ H E I hf st hg
    subst hP hw hK
    obtain ⟨⟨old, he⟩, hit, hne⟩ := st
    obtain ⟨xs, x, hq, hx⟩ := hg
    obtain ⟨its, rv, pl, hz⟩ := I.list hq
    obtain ⟨u, hu, ru⟩ := rv.get hx
    have hel : e < s.heap.objs.size := Heap.lt_size he
    have hil : it < s.heap.objs.size := by obtain ⟨_, q, _⟩ := hit; exact Heap.lt_size q
    have hai : a ≠ it := fun z => by
      obtain ⟨o, ho, hcc, hd⟩ := hit
      obtain ⟨o2, ho2, hcc2, n2, hd2⟩ := pl.isList
      rw [z, ho] at ho2; cases ho2; rw [hd] at hd2; cases hd2
    have hae : e ∉ [it, a] := fun hm => by
      rcases List.mem_cons.mp hm with z | z
      · exact hne z
      · obtain ⟨o2, ho2, hcc2, n2, hd2⟩ := pl.isList
        have z := List.mem_singleton.mp z
        have he2 : s.heap.get? a = some _ := z ▸ he
        rw [he2] at ho2; cases ho2; cases hd2
    have hlt : i < its.toArray.size := by
      have := (List.getElem?_eq_some_iff.mp hu).1
      simpa using this
    refine wpAny_pyNext_enum_itemC (Draws.list (A := X.A.in1) (I.ok.hd hc) it a hai its.toArray) he ⟨hit, pl.isList⟩ hlt hne hae fun x' h' tk hP ho hit' hT hsz hk => ?_
    have ex : x' = u := by
      have hP' : its.toArray[i]? = some x' := hP
      rw [List.getElem?_toArray, hu] at hP'
      exact (Option.some.inj hP').symm
    subst ex
    refine ⟨_, rfl, wpAny_letOwnedTupleGo_enum (s := { s with heap := h', toks := tk + 1 }) ho fun h2 he' sb => ?_⟩
    have hT2 : h2.get? s.heap.objs.size = some { cls := .type "tuple", data := .seq #[.int (k + (i : Int)) tk, x'] } := (sb.2 _ (Nat.ne_of_gt hel)).trans hT
    have new : ObjOk X.prog X.w (upd H s.heap.objs.size (.tup [.int (k + (i : Int)), x])) h2 s.heap.objs.size (.tup [.int (k + (i : Int)), x]) :=
      ⟨line_of (by show 2 ≤ 1000000; decide), [.int (k + (i : Int)) tk, x'], .cons ⟨tk, rfl⟩ (.cons ru .nil), ⟨_, hT2, rfl, _, rfl⟩⟩
    have I1 : Inv X pins σ (upd H s.heap.objs.size (.tup [.int (k + (i : Int)), x])) { s with heap := h2, toks := tk + 1 } :=
      I.turnedNew (ch := [e, it]) (fun b ob hb q => (sb.2 b fun z => hb (z ▸ List.mem_cons_self)).trans (hk b ob (fun z => hb (z ▸ List.mem_cons_self)) (fun z => hb (z ▸ List.mem_cons_of_mem _ List.mem_cons_self)) q)) hf (Nat.le_refl _) new
    refine ⟨.ref s.heap.objs.size, _, I1, rfl, ⟨_, x, rfl, I.hok.fresh (Nat.le_refl _), rfl, fun ys hy => by rw [I.list_inj hy hq]; exact hx⟩, ⟨⟨x', ?_⟩, hit'.1.at fun o q => (sb.2 it hne.symm).trans q, hne⟩, fun b hb => ?_⟩
    · have e1 : k + ((i + 1 : Nat) : Int) = k + (i : Int) + 1 := by omega
      rw [e1]; exact he'
    · have hb' : b < s.heap.objs.size := by
        rcases List.mem_cons.mp hb with z | z
        · subst z; exact hel
        · rw [List.mem_singleton.mp z]; exact hil
      rw [upd_ne (Nat.ne_of_lt hb')]
      exact (hf b hb).1
  done := by
    intro X hP hw hK hc i pins s σ H E I hf st hg
    subst hP hw hK
    obtain ⟨⟨old, he⟩, hit, hne⟩ := st
    obtain ⟨xs, hq, hx⟩ := hg
    obtain ⟨its, rv, pl, hz⟩ := I.list hq
    obtain ⟨f0, f1, f2, f3, f4, f5⟩ := hf it (by simp)
    have hl := rv.length
    have hT : s.TypeIs (.ref e) "enumerate" := ⟨_, he, rfl⟩
    unfold pyNext
    refine wpAny_bind (wpAny_attempt (wpAny_callSpecial?_slot (name := Str.ofString "__next__") hT F.slot_enumerate_next
      (wpAny_call_entry F.slot_enumerate_next hT F.entry_enumerate_next ?_ (F.args_enumerate_next_1 _))))
    show wpAny _ _ (field (.ref e) 2 >>= _) _ _ _
    refine wpAny_bind (wpAny_field he rfl (x := .ref it) rfl ?_)
    refine wpAny_bind (wpAny_nextOf_list_end (A := X.A.in1) (I.ok.hd hc) hit pl.isList (by simp; omega) fun h' x eb hx' => ?_)
    obtain ⟨o, ho, hcl⟩ := hx'
    refine wpAny_bind (wpAny_isInstance (T := "StopIteration") (b := true) ⟨o, ho, hcl⟩ isSubtype_stop ?_)
    exact wpAny_pure ⟨rfl, I.turned (t' := s.toks) (fun b o hb q => eb b o hb q) f0 f1 f3 f4 f5⟩
  self := fun A i s Q E st h => let ⟨⟨_, he⟩, _⟩ := st; wpAny_pyIter_enum he h
theorem callWith_tyKw {M : Model} {A : Around} {E : Value → Shared → Prop} {s : Shared} {pos : Pos} {T : String} {first : List Value} {args : List (Bool × Sem Value)} {kws : List (Option Str × Sem Value)} {Q : Value → Shared → Prop}
    (h1 : args.any (·.1) = false) (h2 : kws.any (·.1.isNone) = false) (h : wpAny M A (evalArgs (.type T) true args kws) (fun a s1 => wpAny M A (call (.type T) (first ++ a.pos) a.kw) Q E s1) E s) : wpAny M A (callWith pos (.type T) first args kws) Q E s := by
  unfold callWith
  refine wpAny_bind (wpAny_holding (wpAny_mono h (fun a s1 q => wpAny_bind (wpAny_standAt ?_)) fun _ _ x => x))
  simp only [h1, h2, Bool.or_false]
  refine wpAny_bind (wpAny_pure ?_)
  exact wpAny_bind (wpAny_mono q (fun r s2 hr => wpAny_bind (wpAny_holding (wpAny_point (wpAny_pure hr)))) fun _ _ x => x)
def iEnumF (K : PySem.W.Frag) (k : Int) (ta : TA) : TI := fun σ H R => ta σ H fun vs H1 => ∃ a xs, vs = [.ref a] ∧ SqL K H1 a xs ∧ R (ItF K a k) H1
theorem pi_enumF {X : Cx} {e : Expr} {ta : TA} {p pos tpos kp cp : Pos} {elts : List Expr} {kk : Nat} {k : Int} {j} (hk0 : -(2 ^ 63) ≤ k) (hk1 : k < 2 ^ 63) (hg : Gl X "enumerate") (hm : X.mg "enumerate" = none) (ha : PA X [e] ta)
    (hs : starEach [e] X.env = [(false, eval e X.env)] := by rfl) :
    PI X (.Tuple elts kk tpos) (.Call (.Name "enumerate" p) [e] [⟨some "start", .Constant (.int k) j cp, kp⟩] pos) (iEnumF X.K k ta) := by
  refine ⟨fun pins s σ H R I h => ?_⟩
  refine wpAny_Call_Name_kw (ld_blt I hg hm boot_enumerate ?_)
  have hA := ha.run pos pins s σ H _ I h
  rw [hs] at hA ⊢
  refine callWith_tyKw (by rfl) (by rfl) (evalArgs_kwB (by rfl) (thn hA fun us s1 ⟨vs, H1, I1, r1, a, xs, ex, hq, q⟩ => kws_cons (wpAny_Constant_int (kws_nil ?_))))
  subst ex
  cases r1 with
  | cons r rr =>
    cases rr
    cases r
    have I1' : Inv X pins σ H1 { s1 with toks := s1.toks + 1 } := I1.tok _
    obtain ⟨its, rv, p', hz⟩ := I1'.list hq
    refine enum_begins_start (begins_list a its.toArray) p'.isList hk0 hk1 fun h' he hit hsz hk => wpAny_pyIter_enum he ?_
    have I2 : Inv X pins σ H1 { s1 with heap := h', toks := s1.toks + 1 } := I1'.kept (t' := s1.toks + 1) hk
    refine ⟨s1.heap.objs.size + 1, [s1.heap.objs.size + 1, s1.heap.objs.size], _, _, H1, rfl, I2, turn_enumF a (s1.heap.objs.size + 1) s1.heap.objs.size k, ⟨⟨.none, by simpa using he⟩, ⟨_, hit, rfl, rfl⟩, Nat.succ_ne_self _⟩, fun b hb => ?_, q⟩
    have hle : s1.heap.objs.size ≤ b := by
      rcases List.mem_cons.mp hb with z | z
      · rw [z]; exact Nat.le_succ _
      · rw [List.mem_singleton.mp z]; exact Nat.le_refl _
    exact I1.fpOk hle (I1.hok.fresh hle)

/-! the plain layer's -/
def enumDs (k : Int) (xs : List D) : List D := xs.mapIdx fun i d => .tup [.int (k + (i : Int)), d]
def itE (k : Int) : List D → HP → R (List D × (HP → Prop)) := fun ds h => match ds with
  | [.ref i] => match h[i]? with
    | some (.lst xs) => .ok (enumDs k xs, fun h => h[i]? = some (.lst xs)) h
    | some (.rdl xs) => .ok (enumDs k xs, fun h => h[i]? = some (.rdl xs)) h
    | _ => .bad
  | _ => .bad
def iE (k : Int) (a : MA) : MI := fun s h => (a s h).bind (itE k)
theorem jrel_enum {K : PySem.W.Frag} {mg : Str → Option Value} {r0 : List Addr} {H0 : Hp} {i : Nat} {ad : Addr} {xs : List D} {G : HP → Prop} {k : Int} (ea : r0[i]? = some ad) (hG : ∀ h, G h → h[i]? = some (.lst xs) ∨ h[i]? = some (.rdl xs)) : JRel K mg r0 H0 (ItF K ad k) (enumDs k xs) G := by
  intro j r H h e kp rp g
  obtain ⟨vs, sq, rl⟩ := list_at rp (e.get ea) (hG h g)
  refine ⟨fun d hd => ?_, fun hj => ⟨vs, sq, by rw [← rl.length]; simpa [enumDs] using hj⟩⟩
  unfold enumDs at hd
  rw [List.getElem?_mapIdx] at hd
  cases z : xs[j]? with
  | none => rw [z] at hd; cases hd
  | some d' =>
    rw [z] at hd; cases hd
    obtain ⟨v, hv, rv⟩ := rl.get z
    refine ⟨⟨vs, v, sq, hv⟩, fun y H' ⟨T, x, e1, e2, e3, e4⟩ => ?_⟩
    have e5 := e4 vs sq
    rw [hv] at e5
    cases e5
    subst e1 e3
    have kn : Keep H (upd H T (.tup [.int (k + (j : Int)), v])) := Keep.new e2
    exact ⟨kn, rp.fresh e2, .tup upd_same (.cons (.int _) (.cons (rv.mono (Ext.refl _) kn) .nil))⟩
theorem qi_enum {X : Cx} {W : WX} {e : Expr} {t : MA} {p pos tpos kp cp : Pos} {elts : List Expr} {kk : Nat} {k : Int} {j} (hk0 : -(2 ^ 63) ≤ k) (hk1 : k < 2 ^ 63) (hg : Gl X "enumerate") (hm : X.mg "enumerate" = none) (ha : QA X W [e] t)
    (hs : starEach [e] X.env = [(false, eval e X.env)] := by rfl) :
    QI X W (.Tuple elts kk tpos) (.Call (.Name "enumerate" p) [e] [⟨some "start", .Constant (.int k) j cp, kp⟩] pos) (iE k t) := (pi_enumF hk0 hk1 hg hm ha hs).imp fun σ H Q q => by
  obtain ⟨r, s, h, rp, rs, p⟩ := rIt.bind (rr := rDs) (m := t) (f := itE k) q
  refine ⟨r, s, h, rp, rs, p.imp fun v H1 ⟨r1, s1, ds, h1, rp1, rs1, rl1, p1⟩ => ?_⟩
  unfold itE at p1
  split at p1
  · rename_i i
    cases rl1 with
    | @cons x v xs vs a b =>
      cases b
      cases a with
      | ref ea =>
        split at p1
        · rename_i xs hx
          obtain ⟨vs, sq, rl⟩ := list_at rp1 ea (.inl hx)
          exact ⟨_, vs, rfl, sq, p1 r1 H1 _ (Ext.refl _) (Keep.refl _) rp1 (jrel_enum ea fun h g => .inl g)⟩
        · rename_i xs hx
          obtain ⟨vs, sq, rl⟩ := list_at rp1 ea (.inr hx)
          exact ⟨_, vs, rfl, sq, p1 r1 H1 _ (Ext.refl _) (Keep.refl _) rp1 (jrel_enum ea fun h g => .inr g)⟩
        · exact p1.elim
  · exact p1.elim
end PM
end
section
set_option Elab.async false
set_option linter.all false
set_option maxRecDepth 100000
set_option maxHeartbeats 1000000
namespace PM
open PySem PySem.Spec PyProof.Rows L2

section
variable {X : Cx} {K : PySem.W.Frag} {mg : Str → Option Value} {r : List Addr} {H : Hp} {h : HP}

/-! ### numbers and texts -/
def addG : D → D → HP → Option (D × HP) := fun x y h => match x, y with
  | .int i, .int j => some (.int (i + j), h)
  | .str a, .str b => if a.length + b.length ≤ 1000000 then some (.str (a ++ b), h) else none
  | .ref i, .ref j => match h[i]?, h[j]? with
    | some (.lst xs), some (.lst ys) => if xs.length + ys.length ≤ 1000000 then some (.ref h.length, h ++ [.lst (xs ++ ys)]) else none
    | _, _ => none
  | .tup xs, .tup ys => if xs ≠ [] ∧ xs.length + ys.length ≤ 1000000 then some (.tup (xs ++ ys), h) else none
  | _, _ => none
theorem nil_of {xs : List D} {vs : List V} (rl : RelDs K mg r H xs vs) : xs = [] ↔ vs = [] := by
  cases rl with
  | nil => simp
  | cons _ _ => simp
theorem op_addG : OpR X (binaryOp .Add) (rV2 X.K X.mg addG) := by
  intro pins s σ H x y v u Q I rx ry ⟨r, a, b, h, rp, ra, rb, p⟩
  unfold addG at p
  cases ra with
  | int i =>
    cases rb with
    | int j => exact op_add pins s σ H _ _ v u Q I rx ry ⟨i, j, rfl, rfl, p.here rp (.int _)⟩
    | _ => exact p.elim
  | str a =>
    cases rb with
    | str b =>
      dsimp only at p
      by_cases hz : a.length + b.length ≤ 1000000
      · rw [if_pos hz] at p
        exact op_add_str pins s σ H _ _ v u Q I rx ry ⟨a, b, rfl, rfl, line_of hz, p.here rp (.str _)⟩
      · rw [if_neg hz] at p; exact p.elim
    | _ => exact p.elim
  | @ref i ad ea =>
    cases rb with
    | @ref j bd eb =>
      dsimp only at p
      split at p
      · rename_i xs ys hx hy
        by_cases hz : xs.length + ys.length ≤ 1000000
        · rw [if_pos hz] at p
          obtain ⟨vs, q1, rl1⟩ := rp.obs i _ ad hx ea
          obtain ⟨us, q2, rl2⟩ := rp.obs j _ bd hy eb
          exact op_cat pins s σ H _ _ v u Q I rx ry ⟨ad, bd, vs, us, rfl, rfl, q1, q2, line_of (by rw [← rl1.length, ← rl2.length]; exact hz), fun p' hp => p.lst rp (rl1.append rl2) hp⟩
        · rw [if_neg hz] at p; exact p.elim
      · exact p.elim
    | _ => exact p.elim
  | @tup xs ad vs sq0 rl =>
    have sq := SqT.of (K := X.K) sq0
    cases rb with
    | @tup ys bd us sq20 rl2 =>
      have sq2 := SqT.of (K := X.K) sq20
      dsimp only at p
      by_cases hz : xs ≠ [] ∧ xs.length + ys.length ≤ 1000000
      · rw [if_pos hz] at p
        refine op_catT pins s σ H _ _ v u Q I rx ry ⟨ad, bd, vs, us, rfl, rfl, sq, sq2, fun e => hz.1 ((nil_of rl).mpr e), line_of (by rw [← rl.length, ← rl2.length]; exact hz.2), fun e => ?_, fun e p' hp => p.tup rp (rl.append rl2) hp⟩
        refine p.here rp (.tup sq0 ?_)
        have e2 := (nil_of rl2).mpr e
        subst e2
        rw [List.append_nil]; exact rl
      · rw [if_neg hz] at p; exact p.elim
    | _ => exact p.elim
  | _ => exact p.elim
theorem iop_addG : OpR X (inplaceOp .Add) (rV2 X.K X.mg fun x y h => match x, y with
  | .int i, .int j => some (.int (i + j), h)
  | .str a, .str b => if a.length + b.length ≤ 1000000 then some (.str (a ++ b), h) else none
  | _, _ => none) := by
  intro pins s σ H x y v u Q I rx ry ⟨r, a, b, h, rp, ra, rb, p⟩
  cases ra with
  | int i =>
    cases rb with
    | int j => exact iop_add pins s σ H _ _ v u Q I rx ry ⟨i, j, rfl, rfl, p.here rp (.int _)⟩
    | _ => exact p.elim
  | str a =>
    cases rb with
    | str b =>
      dsimp only at p
      by_cases hz : a.length + b.length ≤ 1000000
      · rw [if_pos hz] at p
        exact iop_add_str pins s σ H _ _ v u Q I rx ry ⟨a, b, rfl, rfl, line_of hz, p.here rp (.str _)⟩
      · rw [if_neg hz] at p; exact p.elim
    | _ => exact p.elim
  | _ => exact p.elim
/-- an operator of whole numbers with a condition -/
def intG (C : Int → Int → Bool) (g : Int → Int → Int) : D → D → HP → Option (D × HP) := fun x y h => match x, y with
  | .int i, .int j => if C i j = true then some (.int (g i j), h) else none
  | _, _ => none
theorem op_intG {f : Value → Value → Sem Value} {C : Int → Int → Prop} {Cb : Int → Int → Bool} {g : Int → Int → Int} (ho : OpR X f (rI C fun i j => .int (g i j))) (hC : ∀ i j, Cb i j = true → C i j) : OpR X f (rV2 X.K X.mg (intG Cb g)) := by
  intro pins s σ H x y v u Q I rx ry ⟨r, a, b, h, rp, ra, rb, p⟩
  unfold intG at p
  cases ra with
  | int i =>
    cases rb with
    | int j =>
      dsimp only at p
      by_cases hz : Cb i j = true
      · rw [if_pos hz] at p
        exact ho pins s σ H _ _ v u Q I rx ry ⟨i, j, rfl, rfl, hC i j hz, p.here rp (.int _)⟩
      · rw [if_neg hz] at p; exact p.elim
    | _ => exact p.elim
  | _ => exact p.elim
def intG0 (g : Int → Int → Int) : D → D → HP → Option (D × HP) := fun x y h => match x, y with
  | .int i, .int j => some (.int (g i j), h)
  | _, _ => none
theorem op_intG0 {f : Value → Value → Sem Value} {g : Int → Int → Int} (ho : OpR X f (rI0 fun i j => .int (g i j))) : OpR X f (rV2 X.K X.mg (intG0 g)) := by
  intro pins s σ H x y v u Q I rx ry ⟨r, a, b, h, rp, ra, rb, p⟩
  unfold intG0 at p
  cases ra with
  | int i =>
    cases rb with
    | int j => exact ho pins s σ H _ _ v u Q I rx ry ⟨i, j, rfl, rfl, p.here rp (.int _)⟩
    | _ => exact p.elim
  | _ => exact p.elim
def cmpG (g : Int → Int → Bool) : D → D → HP → Option (D × HP) := fun x y h => match x, y with
  | .int i, .int j => some (.bl (g i j), h)
  | _, _ => none
theorem op_cmpG {f : Value → Value → Sem Value} {g : Int → Int → Bool} (ho : OpR X f (rI0 fun i j => .bl (g i j))) : OpR X f (rV2 X.K X.mg (cmpG g)) := by
  intro pins s σ H x y v u Q I rx ry ⟨r, a, b, h, rp, ra, rb, p⟩
  unfold cmpG at p
  cases ra with
  | int i =>
    cases rb with
    | int j => exact ho pins s σ H _ _ v u Q I rx ry ⟨i, j, rfl, rfl, p.here rp (.bl _)⟩
    | _ => exact p.elim
  | _ => exact p.elim
abbrev subG := intG0 fun i j => i - j
theorem op_subG : OpR X (binaryOp .Sub) (rV2 X.K X.mg subG) := op_intG0 op_sub
def cMul (i j : Int) : Bool := (decide (-(2 ^ 64) < i) && decide (i < 2 ^ 64)) || (decide (-(2 ^ 64) < j) && decide (j < 2 ^ 64))
theorem cMul_ok (i j : Int) (h : cMul i j = true) : CMul i j := by
  unfold cMul at h
  simp only [Bool.or_eq_true, Bool.and_eq_true, decide_eq_true_eq] at h
  exact h
def mulG : D → D → HP → Option (D × HP) := fun x y h => match x, y with
  | .int i, .int j => if cMul i j = true then some (.int (i * j), h) else none
  | .str a, .int j => if 1 < j ∧ j ≤ 1000 ∧ a.length ≤ 1000 then some (.str (Txt.mul a j), h) else none
  | _, _ => none
theorem op_mulG : OpR X (binaryOp .Mult) (rV2 X.K X.mg mulG) := by
  intro pins s σ H x y v u Q I rx ry ⟨r, a, b, h, rp, ra, rb, p⟩
  unfold mulG at p
  cases ra with
  | int i =>
    cases rb with
    | int j =>
      dsimp only at p
      by_cases hz : cMul i j = true
      · rw [if_pos hz] at p
        exact op_mul pins s σ H _ _ v u Q I rx ry ⟨i, j, rfl, rfl, cMul_ok i j hz, p.here rp (.int _)⟩
      · rw [if_neg hz] at p; exact p.elim
    | _ => exact p.elim
  | str a =>
    cases rb with
    | int j =>
      dsimp only at p
      by_cases hz : 1 < j ∧ j ≤ 1000 ∧ a.length ≤ 1000
      · rw [if_pos hz] at p
        obtain ⟨t, rfl⟩ := rx
        obtain ⟨t2, rfl⟩ := ry
        have hle : a.length * j.toNat ≤ 1000 * 1000 := Nat.mul_le_mul hz.2.2 (by omega)
        refine SB.mul ⟨?_, fun _ _ => ?_, fun _ _ => ?_⟩ fun t' k => ⟨.str (Txt.mul a j), H, I.tok k, ⟨t', rfl⟩, p.here rp (.str _)⟩
        · simp; omega
        · have h1 : (1000 : Int) ≤ (2 ^ 63 - 1) / j := Int.le_ediv_of_mul_le (by omega) (by omega)
          have h3 := hz.2.2
          omega
        · unfold Builtin.Str.tooLong
          have := line_of hle
          simp; exact this
      · rw [if_neg hz] at p; exact p.elim
    | _ => exact p.elim
  | _ => exact p.elim
abbrev modG := intG (fun _ j => decide (j ≠ 0)) fun i j => i.fmod j
theorem op_modG : OpR X (binaryOp .Mod) (rV2 X.K X.mg modG) := op_intG op_modN fun i j h => by have q := of_decide_eq_true (p := j ≠ 0) h; exact q
abbrev fdivG := intG (fun _ j => decide (j ≠ 0 ∧ j.natAbs < 1073741824)) fun i j => i.fdiv j
theorem op_fdivG : OpR X (binaryOp .FloorDiv) (rV2 X.K X.mg fdivG) := op_intG op_fdivN fun i j h => by have q := of_decide_eq_true (p := j ≠ 0 ∧ j.natAbs < 1073741824) h; exact q
abbrev powG := intG (fun i j => decide (0 ≤ j ∧ j ≤ 1000000 ∧ i.natAbs < 2 ^ 64)) fun i j => i ^ j.toNat
theorem op_powG : OpR X (binaryOp .Pow) (rV2 X.K X.mg powG) := op_intG op_pow fun i j h => by have q := of_decide_eq_true (p := 0 ≤ j ∧ j ≤ 1000000 ∧ i.natAbs < 2 ^ 64) h; exact q
theorem iop_subG : OpR X (inplaceOp .Sub) (rV2 X.K X.mg subG) := op_intG0 iop_sub

/-- an order: numbers, texts -/
def ordG (g : Int → Int → Bool) (f : Str → Str → Bool) : D → D → HP → Option (D × HP) := fun x y h => match x, y with
  | .int i, .int j => some (.bl (g i j), h)
  | .str i, .str j => some (.bl (f i j), h)
  | _, _ => none
theorem op_ordG {fn : Value → Value → Sem Value} {g : Int → Int → Bool} {f : Str → Str → Bool} (ho : OpR X fn (rI0 fun i j => .bl (g i j))) (hs : OpR X fn (fun x y H Q => ∃ i j, x = .str i ∧ y = .str j ∧ Q (.bl (f i j)) H)) : OpR X fn (rV2 X.K X.mg (ordG g f)) := by
  intro pins s σ H x y v u Q I rx ry ⟨r, a, b, h, rp, ra, rb, p⟩
  unfold ordG at p
  cases ra with
  | int i =>
    cases rb with
    | int j => exact ho pins s σ H _ _ v u Q I rx ry ⟨i, j, rfl, rfl, p.here rp (.bl _)⟩
    | _ => exact p.elim
  | str i =>
    cases rb with
    | str j => exact hs pins s σ H _ _ v u Q I rx ry ⟨i, j, rfl, rfl, p.here rp (.bl _)⟩
    | _ => exact p.elim
  | _ => exact p.elim
end
end PM
end
section
set_option Elab.async false
set_option linter.all false
set_option maxRecDepth 100000
set_option maxHeartbeats 1000000
namespace PM
open PySem PySem.Spec PyProof.Rows L2

section
variable {X : Cx} {K : PySem.W.Frag} {mg : Str → Option Value} {r : List Addr} {H : Hp} {h : HP}
abbrev ltG := ordG (fun i j => decide (i < j)) (fun i j => decide (i.cps.toList < j.cps.toList))
abbrev leG := ordG (fun i j => decide (i ≤ j)) (fun i j => !decide (j.cps.toList < i.cps.toList))
abbrev gtG := ordG (fun i j => decide (j < i)) (fun i j => decide (j.cps.toList < i.cps.toList))
abbrev geG := ordG (fun i j => decide (j ≤ i)) (fun i j => !decide (i.cps.toList < j.cps.toList))
theorem op_ltG : OpR X (compareOp .Lt) (rV2 X.K X.mg ltG) := op_ordG op_lt op_lt_str
theorem op_leG : OpR X (compareOp .LtE) (rV2 X.K X.mg leG) := op_ordG op_le op_le_str
theorem op_gtG : OpR X (compareOp .Gt) (rV2 X.K X.mg gtG) := op_ordG op_gt op_gt_str
theorem op_geG : OpR X (compareOp .GtE) (rV2 X.K X.mg geG) := op_ordG op_ge op_ge_str

/-! ### what is, what equals -/
def isNon : D → Bool
  | .non => true
  | _ => false
def isG (neg : Bool) : D → D → HP → Option (D × HP) := fun x y h => match y with
  | .non => some (.bl (if neg then !isNon x else isNon x), h)
  | _ => none
theorem isNon_rel {d : D} {v : V} (rl : RelD K mg r H d v) : decide (v = .non) = isNon d := by
  cases rl <;> first | rfl | (simp [isNon])
theorem op_isG : OpR X (compareOp .Is) (rV2 X.K X.mg (isG false)) := by
  intro pins s σ H x y v u Q I rx ry ⟨r, a, b, h, rp, ra, rb, p⟩
  unfold isG at p
  cases rb with
  | non => exact op_isN pins s σ H _ _ v u Q I rx ry ⟨rfl, by rw [isNon_rel ra]; exact p.here rp (.bl _)⟩
  | _ => exact p.elim
theorem op_isnG : OpR X (compareOp .IsNot) (rV2 X.K X.mg (isG true)) := by
  intro pins s σ H x y v u Q I rx ry ⟨r, a, b, h, rp, ra, rb, p⟩
  unfold isG at p
  cases rb with
  | non => exact op_notN pins s σ H _ _ v u Q I rx ry ⟨rfl, by rw [isNon_rel ra]; exact p.here rp (.bl _)⟩
  | _ => exact p.elim
/-- a flat value as it stands -/
def flatD : D → Option V
  | .non => some .non
  | .bl b => some (.bl b)
  | .int i => some (.int i)
  | .str x => some (.str x)
  | _ => none
theorem flat_rel {d : D} {v w : V} (rl : RelD K mg r H d v) (e : flatD d = some w) : v = w ∧ flatV v = true := by
  cases rl <;> first | (cases e; exact ⟨rfl, rfl⟩) | cases e
def flatDs : List D → Option (List V)
  | [] => some []
  | d :: ds => match flatD d, flatDs ds with
    | some v, some vs => some (v :: vs)
    | _, _ => none
theorem flats_rel : ∀ {ds : List D} {vs ws : List V}, RelDs K mg r H ds vs → flatDs ds = some ws → vs = ws ∧ vs.all flatV = true
  | _, _, _, .nil, e => by cases e; exact ⟨rfl, rfl⟩
  | d :: ds, v :: vs, ws, .cons a t, e => by
    unfold flatDs at e
    cases e1 : flatD d with
    | none => rw [e1] at e; cases e
    | some w =>
      cases e2 : flatDs ds with
      | none => rw [e1, e2] at e; cases e
      | some ws' =>
        rw [e1, e2] at e
        cases e
        obtain ⟨z1, z2⟩ := flat_rel a e1
        obtain ⟨z3, z4⟩ := flats_rel t e2
        subst z1 z3
        exact ⟨rfl, by rw [List.all_cons, z2, z4]; rfl⟩
def toPy : Nat → HP → D → Option PyData
  | 0, _, _ => none
  | n + 1, h, d => match d with
    | .non => some .none
    | .bl b => some (.bool b)
    | .int i => some (.int i)
    | .str x => some (.str x)
    | .tup xs => (xs.mapM (toPy n h)).map PyData.tuple
    | .stp xs => (xs.mapM (toPy n h)).map PyData.tuple
    | .ref i => match h[i]? with
      | some (.lst xs) => (xs.mapM (toPy n h)).map PyData.list
      | some (.rdl xs) => (xs.mapM (toPy n h)).map PyData.list
      | _ => none
    | _ => none
theorem dp_all {f : D → Option PyData} (hf : ∀ d p v, f d = some p → RelD K mg r H d v → Dp K H v p) : ∀ (ds : List D) (ps : List PyData) (vs : List V), ds.mapM f = some ps → RelDs K mg r H ds vs → DpAll K H vs ps
  | [], ps, vs, e, rl => by cases rl; simp at e; subst e; exact .nil
  | d :: ds, ps, vs, e, rl => by
    cases rl with
    | cons a t =>
      rw [List.mapM_cons] at e
      cases e1 : f d with
      | none => rw [e1] at e; cases e
      | some p =>
        rw [e1] at e
        cases e2 : ds.mapM f with
        | none => rw [e2] at e; cases e
        | some ps' =>
          rw [e2] at e
          cases e
          exact .cons (hf d p _ e1 a) (dp_all hf ds ps' _ e2 t)
theorem toPy_ok (rp : Rep K mg r h H) : ∀ (n : Nat) (d : D) (p : PyData) (v : V), toPy n h d = some p → RelD K mg r H d v → Dp K H v p
  | 0, _, _, _, e, _ => by cases e
  | n + 1, d, p, v, e, rl => by
    unfold toPy at e
    cases rl with
    | non => cases e; exact .non
    | bl b => cases e; exact .bl b
    | int i => cases e; exact .int i
    | str x => cases e; exact .str x
    | @tup xs a vs sq0 t =>
      have sq := SqT.of (K := K) sq0
      dsimp only at e
      cases e1 : xs.mapM (toPy n h) with
      | none => rw [e1] at e; cases e
      | some ps => rw [e1] at e; cases e; exact .tup sq (dp_all (fun d p v => toPy_ok rp n d p v) xs ps vs e1 t)
    | @stp xs a vs sq0 t =>
      have sq := sq0.sq
      dsimp only at e
      cases e1 : xs.mapM (toPy n h) with
      | none => rw [e1] at e; cases e
      | some ps => rw [e1] at e; cases e; exact .tup sq (dp_all (fun d p v => toPy_ok rp n d p v) xs ps vs e1 t)
    | @ref i a ea =>
      dsimp only at e
      split at e
      · rename_i xs hx
        cases e1 : xs.mapM (toPy n h) with
        | none => rw [e1] at e; cases e
        | some ps =>
          rw [e1] at e; cases e
          obtain ⟨vs, sq, t⟩ := list_at rp ea (.inl hx)
          exact .lst sq (dp_all (fun d p v => toPy_ok rp n d p v) xs ps vs e1 t)
      · rename_i xs hx
        cases e1 : xs.mapM (toPy n h) with
        | none => rw [e1] at e; cases e
        | some ps =>
          rw [e1] at e; cases e
          obtain ⟨vs, sq, t⟩ := list_at rp ea (.inr hx)
          exact .lst sq (dp_all (fun d p v => toPy_ok rp n d p v) xs ps vs e1 t)
      · cases e
    | fn _ => cases e
    | ty _ => cases e
def eqB (x y : D) (h : HP) : Option Bool := match x, y with
  | .int i, .int j => some (decide (i = j))
  | .str a, .str b => some (decide (a = b))
  | .bl a, .bl b => some (decide (a = b))
  | .non, .non => some true
  | x, y => match toPy 60 h x, toPy 60 h y with
    | some p, some q => if SeqAt.shaped p = true ∧ SeqAt.shaped q = true then some (PyData.eqv p q) else none
    | _, _ => none
def eqG (neg : Bool) : D → D → HP → Option (D × HP) := fun x y h => (eqB x y h).map fun b => (.bl (if neg then !b else b), h)
theorem eqB_deep {x y : D} {v u : V} {b : Bool} (rp : Rep K mg r h H) (rx : RelD K mg r H x v) (ry : RelD K mg r H y u) (e : (match toPy 60 h x, toPy 60 h y with
    | some p, some q => if SeqAt.shaped p = true ∧ SeqAt.shaped q = true then some (PyData.eqv p q) else none
    | _, _ => none) = some b) : ∃ p q, Dp K H v p ∧ Dp K H u q ∧ SeqAt.shaped p = true ∧ SeqAt.shaped q = true ∧ PyData.eqv p q = b := by
  cases e1 : toPy 60 h x with
  | none => rw [e1] at e; cases e
  | some p =>
    cases e2 : toPy 60 h y with
    | none => rw [e1, e2] at e; cases e
    | some q =>
      rw [e1, e2] at e
      dsimp only at e
      by_cases hz : SeqAt.shaped p = true ∧ SeqAt.shaped q = true
      · rw [if_pos hz] at e
        exact ⟨p, q, toPy_ok rp 60 x p v e1 rx, toPy_ok rp 60 y q u e2 ry, hz.1, hz.2, Option.some.inj e⟩
      · rw [if_neg hz] at e; cases e
/-- how two values are compared: plainly, or as data -/
theorem eqB_ok {x y : D} {v u : V} {b : Bool} (rp : Rep K mg r h H) (rx : RelD K mg r H x v) (ry : RelD K mg r H y u) (e : eqB x y h = some b) :
    (scal v u = true ∧ decide (v = u) = b) ∨ ∃ p q, Dp K H v p ∧ Dp K H u q ∧ SeqAt.shaped p = true ∧ SeqAt.shaped q = true ∧ PyData.eqv p q = b := by
  unfold eqB at e
  split at e
  · cases rx; cases ry; cases e; exact .inl ⟨rfl, by simp⟩
  · cases rx; cases ry; cases e; exact .inl ⟨rfl, by simp⟩
  · cases rx; cases ry; cases e; exact .inl ⟨rfl, by simp⟩
  · cases rx; cases ry; cases e; exact .inl ⟨rfl, by simp⟩
  · exact .inr (eqB_deep rp rx ry e)
theorem op_eqG (hu : X.A.units + 64 < cLine) : OpR X (compareOp .Eq) (rV2 X.K X.mg (eqG false)) := by
  intro pins s σ H x y v u Q I rx ry ⟨r, a, b, h, rp, ra, rb, p⟩
  unfold eqG at p
  cases e : eqB a b h with
  | none => rw [e] at p; exact p.elim
  | some z =>
    rw [e] at p
    have q := p.here rp (.bl _)
    rcases eqB_ok rp ra rb e with ⟨z1, z2⟩ | ⟨d1, d2, z1, z2, z3, z4, z5⟩
    · exact op_eq pins s σ H _ _ v u Q I rx ry ⟨z1, by rw [z2]; exact q⟩
    · exact op_eqD hu pins s σ H _ _ v u Q I rx ry ⟨d1, d2, z1, z2, z3, z4, by rw [z5]; exact q⟩
theorem op_neG (hu : X.A.units + 64 < cLine) : OpR X (compareOp .NotEq) (rV2 X.K X.mg (eqG true)) := by
  intro pins s σ H x y v u Q I rx ry ⟨r, a, b, h, rp, ra, rb, p⟩
  unfold eqG at p
  cases e : eqB a b h with
  | none => rw [e] at p; exact p.elim
  | some z =>
    rw [e] at p
    have q := p.here rp (.bl _)
    rcases eqB_ok rp ra rb e with ⟨z1, z2⟩ | ⟨d1, d2, z1, z2, z3, z4, z5⟩
    · exact op_ne pins s σ H _ _ v u Q I rx ry ⟨z1, by rw [z2]; exact q⟩
    · exact op_neD hu pins s σ H _ _ v u Q I rx ry ⟨d1, d2, z1, z2, z3, z4, by rw [z5]; exact q⟩

/-! ### what is in -/
def inB (x y : D) (h : HP) : Option Bool := match y with
  | .str b => match x with
    | .str a => match a.cps.toList with
      | [c] => some (decide (c ∈ b.cps.toList))
      | _ => none
    | _ => none
  | .tup xs => match flatD x, flatDs xs with
    | some v, some vs => some (inV v vs)
    | _, _ => none
  | .stp xs => match flatD x, flatDs xs with
    | some v, some vs => some (inV v vs)
    | _, _ => none
  | .ref i => match h[i]? with
    | some (.lst xs) => match flatD x, flatDs xs with
      | some v, some vs => some (inV v vs)
      | _, _ => none
    | some (.rdl xs) => match flatD x, flatDs xs with
      | some v, some vs => some (inV v vs)
      | _, _ => none
    | _ => none
  | _ => none
def inG (neg : Bool) : D → D → HP → Option (D × HP) := fun x y h => (inB x y h).map fun b => (.bl (if neg then !b else b), h)
theorem one_sign {a : Str} {c : Nat} (e : a.cps.toList = [c]) : a = ⟨#[c]⟩ := by
  obtain ⟨l⟩ := a
  have : l = #[c] := by
    apply Array.toList_inj.mp; exact e
  rw [this]
theorem seq_in {x : D} {xs : List D} {v : V} {vs ws : List V} {w : V} (rx : RelD K mg r H x v) (rl : RelDs K mg r H xs vs) (e1 : flatD x = some w) (e2 : flatDs xs = some ws) : flatV v = true ∧ vs.all flatV = true ∧ inV v vs = inV w ws := by
  obtain ⟨z1, z2⟩ := flat_rel rx e1
  obtain ⟨z3, z4⟩ := flats_rel rl e2
  subst z1 z3
  exact ⟨z2, z4, rfl⟩
theorem inB_ok {x y : D} {v u : V} {b : Bool} (rp : Rep K mg r h H) (rx : RelD K mg r H x v) (ry : RelD K mg r H y u) (e : inB x y h = some b) :
    (∃ (c : Nat) (z : Str), v = .str ⟨#[c]⟩ ∧ u = .str z ∧ decide (c ∈ z.cps.toList) = b) ∨ ∃ p xs, u = .ref p ∧ (SqL K H p xs ∨ SqT K H p xs) ∧ flatV v = true ∧ xs.all flatV = true ∧ inV v xs = b := by
  unfold inB at e
  cases ry with
  | str z =>
    cases rx with
    | str a =>
      dsimp only at e
      split at e
      · rename_i c hc
        cases e
        exact .inl ⟨c, z, by rw [one_sign hc], rfl, rfl⟩
      · cases e
    | _ => cases e
  | @tup xs ad vs sq0 rl =>
    have sq := SqT.of (K := K) sq0
    dsimp only at e
    split at e
    · rename_i w ws e1 e2
      obtain ⟨z1, z2, z3⟩ := seq_in rx rl e1 e2
      cases e
      exact .inr ⟨ad, vs, rfl, .inr sq, z1, z2, z3⟩
    · cases e
  | @stp xs ad vs sq0 rl =>
    have sq := sq0.sq
    dsimp only at e
    split at e
    · rename_i w ws e1 e2
      obtain ⟨z1, z2, z3⟩ := seq_in rx rl e1 e2
      cases e
      exact .inr ⟨ad, vs, rfl, .inr sq, z1, z2, z3⟩
    · cases e
  | @ref i ad ea =>
    dsimp only at e
    split at e
    · rename_i xs hx
      obtain ⟨vs, sq, rl⟩ := list_at rp ea (.inl hx)
      split at e
      · rename_i w ws e1 e2
        obtain ⟨z1, z2, z3⟩ := seq_in rx rl e1 e2
        cases e
        exact .inr ⟨ad, vs, rfl, .inl sq, z1, z2, z3⟩
      · cases e
    · rename_i xs hx
      obtain ⟨vs, sq, rl⟩ := list_at rp ea (.inr hx)
      split at e
      · rename_i w ws e1 e2
        obtain ⟨z1, z2, z3⟩ := seq_in rx rl e1 e2
        cases e
        exact .inr ⟨ad, vs, rfl, .inl sq, z1, z2, z3⟩
      · cases e
    · cases e
  | _ => cases e
theorem op_inG : OpR X (compareOp .In) (rV2 X.K X.mg (inG false)) := by
  intro pins s σ H x y v u Q I rx ry ⟨r, a, b, h, rp, ra, rb, p⟩
  unfold inG at p
  cases e : inB a b h with
  | none => rw [e] at p; exact p.elim
  | some z =>
    rw [e] at p
    have q := p.here rp (.bl _)
    rcases inB_ok rp ra rb e with ⟨c, y', z1, z2, z3⟩ | ⟨ad, xs, z1, z2, z3, z4, z5⟩
    · exact op_in_sign pins s σ H _ _ v u Q I rx ry ⟨c, y', z1, z2, by rw [z3]; exact q⟩
    · exact op_in_seq pins s σ H _ _ v u Q I rx ry ⟨ad, xs, z1, z2, z3, z4, by rw [z5]; exact q⟩
theorem op_ninG : OpR X (compareOp .NotIn) (rV2 X.K X.mg (inG true)) := by
  intro pins s σ H x y v u Q I rx ry ⟨r, a, b, h, rp, ra, rb, p⟩
  unfold inG at p
  cases e : inB a b h with
  | none => rw [e] at p; exact p.elim
  | some z =>
    rw [e] at p
    have q := p.here rp (.bl _)
    rcases inB_ok rp ra rb e with ⟨c, y', z1, z2, z3⟩ | ⟨ad, xs, z1, z2, z3, z4, z5⟩
    · exact op_notIn_sign pins s σ H _ _ v u Q I rx ry ⟨c, y', z1, z2, by rw [z3]; exact q⟩
    · exact op_notIn_seq pins s σ H _ _ v u Q I rx ry ⟨ad, xs, z1, z2, z3, z4, by rw [z5]; exact q⟩
/-- a <= b < c -/
def mChain (g g' : D → D → HP → Option (D × HP)) (a b c : ME) : ME := fun s h => (a s h).bind fun x h => (b s h).bind fun y h => ((ofO (g x y h)).bind kBl).bind fun k h => bif k then (c s h).bind fun z h => ofO (g' y z h) else .ok (.bl false) h

/-! ### places and slices -/
def ixG : D → D → HP → Option (D × HP) := fun x y h => match y with
  | .int i => match x with
    | .str z => if z.length ≤ 1000000 then (atI z.cps.toList i).map fun c => (.str ⟨#[c]⟩, h) else none
    | .tup xs => (atI xs i).map fun d => (d, h)
    | .stp xs => (atI xs i).map fun d => (d, h)
    | .ref j => match h[j]? with
      | some (.lst xs) => (atI xs i).map fun d => (d, h)
      | some (.rdl xs) => (atI xs i).map fun d => (d, h)
      | _ => none
    | _ => none
  | _ => none
theorem atI_rel {xs : List D} {vs : List V} {i : Int} {d : D} (rl : RelDs K mg r H xs vs) (e : atI xs i = some d) : ∃ v, atI vs i = some v ∧ RelD K mg r H d v := by
  unfold atI at e ⊢
  rw [← rl.length]
  cases q : ixN xs.length i with
  | none => rw [q] at e; cases e
  | some j =>
    rw [q] at e
    exact rl.get e
theorem ix_G : IxR X (rV2 X.K X.mg ixG) := by
  intro value slice pins s σ H x y v u Q I rx ry ⟨r, a, b, h, rp, ra, rb, p⟩ hs
  unfold ixG at p
  cases rb with
  | int i =>
    cases ra with
    | str z =>
      dsimp only at p
      by_cases hz : z.length ≤ 1000000
      · rw [if_pos hz] at p
        cases e : atI z.cps.toList i with
        | none => rw [e] at p; exact p.elim
        | some c =>
          rw [e] at p
          exact ix_str value slice pins s σ H _ _ v u Q I rx ry ⟨z, i, c, rfl, rfl, line_of hz, e, p.here rp (.str _)⟩ hs
      · rw [if_neg hz] at p; exact p.elim
    | @tup xs ad vs sq0 rl =>
      have sq := SqT.of (K := X.K) sq0
      dsimp only at p
      cases e : atI xs i with
      | none => rw [e] at p; exact p.elim
      | some d =>
        rw [e] at p
        obtain ⟨w, e1, rw'⟩ := atI_rel rl e
        exact ix_tup value slice pins s σ H _ _ v u Q I rx ry ⟨ad, vs, i, w, rfl, rfl, sq, e1, p.here rp rw'⟩ hs
    | @stp xs ad vs sq0 rl =>
      have sq := sq0.sq
      dsimp only at p
      cases e : atI xs i with
      | none => rw [e] at p; exact p.elim
      | some d =>
        rw [e] at p
        obtain ⟨w, e1, rw'⟩ := atI_rel rl e
        exact ix_tup value slice pins s σ H _ _ v u Q I rx ry ⟨ad, vs, i, w, rfl, rfl, sq, e1, p.here rp rw'⟩ hs
    | @ref j ad ea =>
      dsimp only at p
      split at p
      · rename_i xs hx
        obtain ⟨vs, sq, rl⟩ := list_at rp ea (.inl hx)
        cases e : atI xs i with
        | none => rw [e] at p; exact p.elim
        | some d =>
          rw [e] at p
          obtain ⟨w, e1, rw'⟩ := atI_rel rl e
          exact ix_list value slice pins s σ H _ _ v u Q I rx ry ⟨ad, vs, i, w, rfl, rfl, sq, e1, p.here rp rw'⟩ hs
      · rename_i xs hx
        obtain ⟨vs, sq, rl⟩ := list_at rp ea (.inr hx)
        cases e : atI xs i with
        | none => rw [e] at p; exact p.elim
        | some d =>
          rw [e] at p
          obtain ⟨w, e1, rw'⟩ := atI_rel rl e
          exact ix_list value slice pins s σ H _ _ v u Q I rx ry ⟨ad, vs, i, w, rfl, rfl, sq, e1, p.here rp rw'⟩ hs
      · exact p.elim
    | _ => exact p.elim
  | _ => exact p.elim
def slG : D → Option Int → Option Int → HP → Option (D × HP) := fun x lo hi h => match x with
  | .str z => if z.length ≤ 1000000 then some (.str (cutS z lo hi), h) else none
  | _ => none
theorem sl_G : SlR X (rVsl X.K X.mg slG) := by
  intro pins s σ H x v vl vu lo hi sl Q I rx hs pl pu ⟨r, d, h, rp, rl, p⟩
  unfold slG at p
  cases rl with
  | str z =>
    dsimp only at p
    by_cases hz : z.length ≤ 1000000
    · rw [if_pos hz] at p
      exact sl_str pins s σ H _ v vl vu lo hi sl Q I rx hs pl pu ⟨z, rfl, line_of hz, p.here rp (.str _)⟩
    · rw [if_neg hz] at p; exact p.elim
  | _ => exact p.elim
end
end PM
end
section
set_option Elab.async false
set_option linter.all false
set_option maxRecDepth 100000
set_option maxHeartbeats 1000000
namespace PM
open PySem PySem.Spec PyProof.Rows L2

section
variable {X : Cx} {K : PySem.W.Frag} {mg : Str → Option Value} {r : List Addr} {H : Hp} {h : HP} {W : WX} {a b c e o i elt : Expr} {es rest : List Expr} {ma mb mc : ME} {t : MA} {pos pos' apos cpos : Pos}

theorem qe_chain {op op' : CmpOp} {g g' : D → D → HP → Option (D × HP)} (ho : OpR X (compareOp op) (rV2 X.K X.mg g)) (ho' : OpR X (compareOp op') (rV2 X.K X.mg g')) (ha : QE X W a ma) (hb : QE X W b mb) (hc : QE X W c mc)
    (hm : lastMarks [op, op'] [b, c] = false := by with_unfolding_all rfl) : QE X W (.Compare a [op, op'] [b, c] pos) (mChain g g' ma mb mc) := (pe_chain ho ho' ha hb hc hm).imp fun σ H Q q => by
  obtain ⟨r, s, h, rp, rs, p⟩ := tM.bind (rr1 := rD) (m := ma) (k := fun s x h => (mb s h).bind fun y h => ((ofO (g x y h)).bind kBl).bind fun k h => bif k then (mc s h).bind fun z h => ofO (g' y z h) else R.ok (D.bl false) h) q
  refine ⟨r, s, h, rp, rs, p.imp fun x H1 ⟨r1, s1, dx, h1, rp1, rs1, rl1, p1⟩ => ?_⟩
  refine ⟨r1, s1, h1, rp1, rs1, (Post.bind (rr1 := rD) p1).imp fun y H2 ⟨r2, dy, h2, e2, k2, rp2, rl2, p2⟩ => ?_⟩
  refine ⟨r2, dx, dy, h2, rp2, rl1.mono e2 k2, rl2, ?_⟩
  have p3 : Post X.K X.mg rD W r2 σ H2 Q ((ofO (g dx dy h2)).bind fun d h => (kBl d h).bind fun k h => bif k then (mc s1 h).bind fun z h => ofO (g' dy z h) else R.ok (D.bl false) h) := by rw [← bind_bind]; exact p2
  refine ((Post.bind (rr1 := rD) p3).imp fun z H3 ⟨r3, dz, h3, e3, k3, rp3, rl3, p4⟩ => ?_).ofO
  obtain ⟨bb, e4, p5⟩ := bool_of rp3 rl3 p4
  refine ⟨bb, e4, ?_⟩
  cases bb with
  | true =>
    refine ⟨r3, s1, h3, rp3, (rs1.mono e2 k2).mono e3 k3, (Post.bind (rr1 := rD) p5).imp fun w H4 ⟨r4, dw, h4, e5, k5, rp4, rl4, p6⟩ => ?_⟩
    exact ⟨r4, dy, dw, h4, rp4, (rl2.mono e3 k3).mono e5 k5, rl4, p6.ofO⟩
  | false => exact Post.here (rr := rD) p5 rp3 (.bl false)

/-! ### calls of built-ins -/
def lenG : List D → HP → Option (D × HP) := fun ds h => match ds with
  | [.str x] => if x.length ≤ 1000000 then some (.int x.length, h) else none
  | [.tup xs] => some (.int xs.length, h)
  | [.stp xs] => some (.int xs.length, h)
  | [.ref i] => match h[i]? with
    | some (.lst xs) => some (.int xs.length, h)
    | some (.rdl xs) => some (.int xs.length, h)
    | _ => none
  | _ => none
theorem one_of {ds : List D} {vs : List V} {d : D} (rl : RelDs K mg r H [d] vs) : ∃ v, vs = [v] ∧ RelD K mg r H d v := by
  cases rl with
  | cons a b => cases b; exact ⟨_, rfl, a⟩
theorem two_of {vs : List V} {d d' : D} (rl : RelDs K mg r H [d, d'] vs) : ∃ v v', vs = [v, v'] ∧ RelD K mg r H d v ∧ RelD K mg r H d' v' := by
  cases rl with
  | cons a b =>
    cases b with
    | cons b c => cases c; exact ⟨_, _, rfl, a, b⟩
theorem call_lenG : CallR X (.builtin "len") (rVs X.K X.mg lenG) := by
  intro pins s σ H xs us Q I rv ⟨r, ds, h, rp, rl, p⟩
  unfold lenG at p
  split at p
  · rename_i x
    obtain ⟨v, rfl, rd⟩ := one_of (ds := []) rl
    cases rd
    by_cases hz : x.length ≤ 1000000
    · rw [if_pos hz] at p
      exact call_len pins s σ H _ us Q I rv ⟨_, _, rfl, ⟨line_of hz, rfl⟩, p.here rp (.int _)⟩
    · rw [if_neg hz] at p; exact p.elim
  · rename_i xs
    obtain ⟨v, rfl, rd⟩ := one_of (ds := []) rl
    cases rd with
    | tup sq rls => exact call_len pins s σ H _ us Q I rv ⟨_, _, rfl, .inr ⟨_, SqT.of sq, rls.length⟩, p.here rp (.int _)⟩
  · rename_i xs
    obtain ⟨v, rfl, rd⟩ := one_of (ds := []) rl
    cases rd with
    | stp sq rls => exact call_len pins s σ H _ us Q I rv ⟨_, _, rfl, .inr ⟨_, sq.sq, rls.length⟩, p.here rp (.int _)⟩
  · rename_i i
    obtain ⟨v, rfl, rd⟩ := one_of (ds := []) rl
    cases rd with
    | ref ea =>
      split at p
      · rename_i xs hx
        obtain ⟨vs, sq, rls⟩ := list_at rp ea (.inl hx)
        exact call_len pins s σ H _ us Q I rv ⟨_, _, rfl, .inl ⟨_, sq, rls.length⟩, p.here rp (.int _)⟩
      · rename_i xs hx
        obtain ⟨vs, sq, rls⟩ := list_at rp ea (.inr hx)
        exact call_len pins s σ H _ us Q I rv ⟨_, _, rfl, .inl ⟨_, sq, rls.length⟩, p.here rp (.int _)⟩
      · exact p.elim
  · exact p.elim
def toIntG : List D → HP → Option (D × HP) := fun ds h => match ds with
  | [.int i] => some (.int i, h)
  | [.bl k] => some (.int (if k then 1 else 0), h)
  | [.str a] => if a.length ≤ 640 then (PySem.intText? a).map fun n => (.int n, h) else none
  | _ => none
theorem call_toIntG : CallR X (.type "int") (rVs X.K X.mg toIntG) := by
  intro pins s σ H xs us Q I rv ⟨r, ds, h, rp, rl, p⟩
  unfold toIntG at p
  split at p
  · obtain ⟨v, rfl, rd⟩ := one_of (ds := []) rl
    cases rd
    exact call_int1 pins s σ H _ us Q I rv (.inl ⟨_, rfl, p.here rp (.int _)⟩)
  · obtain ⟨v, rfl, rd⟩ := one_of (ds := []) rl
    cases rd
    exact call_int1 pins s σ H _ us Q I rv (.inr ⟨_, rfl, p.here rp (.int _)⟩)
  · rename_i a
    obtain ⟨v, rfl, rd⟩ := one_of (ds := []) rl
    cases rd
    by_cases hz : a.length ≤ 640
    · rw [if_pos hz] at p
      cases z : PySem.intText? a with
      | none => rw [z] at p; exact p.elim
      | some n =>
        rw [z] at p
        exact call_int_str pins s σ H _ us Q I rv ⟨_, _, rfl, z, hz, p.here rp (.int _)⟩
    · rw [if_neg hz] at p; exact p.elim
  · exact p.elim
def min2G : List D → HP → Option (D × HP) := fun ds h => match ds with
  | [.int i, .int j] => some (.int (if j < i then j else i), h)
  | _ => none
theorem call_min2G (hc : X.calm = true) : CallR X (.builtin "min") (rVs X.K X.mg min2G) := by
  intro pins s σ H xs us Q I rv ⟨r, ds, h, rp, rl, p⟩
  unfold min2G at p
  split at p
  · obtain ⟨v, v', rfl, rd, rd'⟩ := two_of rl
    cases rd
    cases rd'
    exact call_min2 hc pins s σ H _ us Q I rv ⟨_, _, rfl, p.here rp (.int _)⟩
  · exact p.elim
def max2G : List D → HP → Option (D × HP) := fun ds h => match ds with
  | [.int i, .int j] => some (.int (if j > i then j else i), h)
  | _ => none
theorem call_max2G (hc : X.calm = true) : CallR X (.builtin "max") (rVs X.K X.mg max2G) := by
  intro pins s σ H xs us Q I rv ⟨r, ds, h, rp, rl, p⟩
  unfold max2G at p
  split at p
  · obtain ⟨v, v', rfl, rd, rd'⟩ := two_of rl
    cases rd
    cases rd'
    exact call_max2 hc pins s σ H _ us Q I rv ⟨_, _, rfl, p.here rp (.int _)⟩
  · exact p.elim
def toTupG : List D → HP → Option (D × HP) := fun ds h => match ds with
  | [.tup xs] => some (.tup xs, h)
  | [.stp xs] => some (.stp xs, h)
  | [.ref i] => match h[i]? with
    | some (.lst xs) => some (.tup xs, h)
    | some (.rdl xs) => some (.tup xs, h)
    | _ => none
  | _ => none
theorem call_toTupG : CallR X (.type "tuple") (rVs X.K X.mg toTupG) := by
  intro pins s σ H xs us Q I rv ⟨r, ds, h, rp, rl, p⟩
  unfold toTupG at p
  split at p
  · rename_i xs
    obtain ⟨v, rfl, rd⟩ := one_of (ds := []) rl
    cases rd with
    | tup sq rls => exact call_tuple_of pins s σ H _ us Q I rv ⟨_, _, rfl, .inr ⟨SqT.of sq, p.here rp (.tup sq rls)⟩⟩
  · rename_i xs
    obtain ⟨v, rfl, rd⟩ := one_of (ds := []) rl
    cases rd with
    | stp sq rls => exact call_tuple_of pins s σ H _ us Q I rv ⟨_, _, rfl, .inr ⟨sq.sq, p.here rp (.stp sq rls)⟩⟩
  · rename_i i
    obtain ⟨v, rfl, rd⟩ := one_of (ds := []) rl
    cases rd with
    | ref ea =>
      split at p
      · rename_i xs hx
        obtain ⟨vs, sq, rls⟩ := list_at rp ea (.inl hx)
        exact call_tuple_of pins s σ H _ us Q I rv ⟨_, _, rfl, .inl ⟨sq, fun l hl => p.tup rp rls hl⟩⟩
      · rename_i xs hx
        obtain ⟨vs, sq, rls⟩ := list_at rp ea (.inr hx)
        exact call_tuple_of pins s σ H _ us Q I rv ⟨_, _, rfl, .inl ⟨sq, fun l hl => p.tup rp rls hl⟩⟩
      · exact p.elim
  · exact p.elim
def toOrdG : List D → HP → Option (D × HP) := fun ds h => match ds with
  | [.str x] => if x.length = 1 then some (.int (x.cps.getD 0 0 : Nat), h) else none
  | _ => none
theorem call_toOrdG : CallR X (.builtin "ord") (rVs X.K X.mg toOrdG) := by
  intro pins s σ H xs us Q I rv ⟨r, ds, h, rp, rl, p⟩
  unfold toOrdG at p
  split at p
  · rename_i x
    obtain ⟨v, rfl, rd⟩ := one_of (ds := []) rl
    cases rd
    by_cases hz : x.length = 1
    · rw [if_pos hz] at p
      exact call_ord pins s σ H _ us Q I rv ⟨_, rfl, hz, p.here rp (.int _)⟩
    · rw [if_neg hz] at p; exact p.elim
  · exact p.elim
def isiG : List D → HP → Option (D × HP) := fun ds h => match ds with
  | [.ref i, .ty n] => match h[i]? with
    | some (.lst _) => (kitB "list" n).map fun b => (.bl b, h)
    | some (.dic _) => (kitB "dict" n).map fun b => (.bl b, h)
    | _ => none
  | [.int _, .ty n] => (kitB "int" n).map fun b => (.bl b, h)
  | [.str _, .ty n] => (kitB "str" n).map fun b => (.bl b, h)
  | [.bl _, .ty n] => (kitB "bool" n).map fun b => (.bl b, h)
  | [.non, .ty n] => (kitB "NoneType" n).map fun b => (.bl b, h)
  | _ => none
theorem isi_at {t n : String} {x : V} {us : List Value} {s : Shared} {pins : List (Addr × Obj)} {σ : L2.St} {H : Hp} {Q : VK} (I : Inv X pins σ H s) (rv : Vals [x, .ty n] us) (ty : TyX X.K H x (.type t)) (rp : Rep X.K X.mg r h H)
    (p : PostV X.K X.mg r H Q ((kitB t n).map fun b => (.bl b, h))) : wpAny (model X.prog X.w) X.A (call (.builtin "isinstance") us) (EP X pins σ Q) X.xe s := by
  cases z : kitB t n with
  | none => rw [z] at p; exact p.elim
  | some bb =>
    rw [z] at p
    exact call_isi pins s σ H _ us Q I rv ⟨_, _, _, _, bb, rfl, .ty n, ty, kit_ty z, p.here rp (.bl _)⟩
theorem call_isiG : CallR X (.builtin "isinstance") (rVs X.K X.mg isiG) := by
  intro pins s σ H xs us Q I rv ⟨r, ds, h, rp, rl, p⟩
  unfold isiG at p
  split at p
  · obtain ⟨v, v', rfl, rd, rd'⟩ := two_of rl
    cases rd'
    cases rd with
    | @ref i ad ea =>
      split at p
      · rename_i xs hx
        obtain ⟨vs, q, _⟩ := rp.obs _ _ ad hx ea
        exact isi_at I rv (.base (.lst q)) rp p
      · rename_i xs hx
        obtain ⟨vs, q, _⟩ := rp.obs _ _ ad hx ea
        exact isi_at I rv (.base (.dK q)) rp p
      · exact p.elim
  · obtain ⟨v, v', rfl, rd, rd'⟩ := two_of rl
    cases rd'; cases rd
    exact isi_at I rv (.base (.int _)) rp p
  · obtain ⟨v, v', rfl, rd, rd'⟩ := two_of rl
    cases rd'; cases rd
    exact isi_at I rv (.base (.str _)) rp p
  · obtain ⟨v, v', rfl, rd, rd'⟩ := two_of rl
    cases rd'; cases rd
    exact isi_at I rv (.base (.bl _)) rp p
  · obtain ⟨v, v', rfl, rd, rd'⟩ := two_of rl
    cases rd'; cases rd
    exact isi_at I rv (.base .non) rp p
  · exact p.elim
def boolsD : List D → Option (List Bool)
  | [] => some []
  | .bl b :: ds => (boolsD ds).map (b :: ·)
  | _ :: _ => none
theorem boolsD_rel : ∀ {ds : List D} {vs : List V} {bs : List Bool}, RelDs K mg r H ds vs → boolsD ds = some bs → vs = bs.map V.bl
  | _, _, _, .nil, e => by cases e; rfl
  | _, _, bs, .cons (x := d) a t, e => by
    cases a with
    | bl b =>
      unfold boolsD at e
      cases z : boolsD _ with
      | none => rw [z] at e; cases e
      | some bs' => rw [z] at e; cases e; rw [boolsD_rel t z]; rfl
    | _ => cases e
def allG : List D → HP → Option (D × HP) := fun ds h => match ds with
  | [.ref i] => match h[i]? with
    | some (.lst xs) => (boolsD xs).map fun bs => (.bl (bs.all id), h)
    | _ => none
  | _ => none
theorem call_allG (hc : X.calm = true) : CallR X (.builtin "all") (rVs X.K X.mg allG) := by
  intro pins s σ H xs us Q I rv ⟨r, ds, h, rp, rl, p⟩
  unfold allG at p
  split at p
  · obtain ⟨v, rfl, rd⟩ := one_of (ds := []) rl
    cases rd with
    | @ref i ad ea =>
      split at p
      · rename_i xs hx
        obtain ⟨vs, q, rls⟩ := rp.obs _ _ ad hx ea
        cases z : boolsD xs with
        | none => rw [z] at p; exact p.elim
        | some bs =>
          rw [z] at p
          have e := boolsD_rel rls z
          subst e
          exact cr_all hc pins s σ H _ us Q I rv ⟨ad, bs, rfl, SqL.of q, p.here rp (.bl _)⟩
      · exact p.elim
  · exact p.elim

/-! ### methods of built-ins -/
def tyB (T : String) (d : D) (h : HP) : Bool := match d with
  | .str _ => T == "str"
  | .ref i => match h[i]? with
    | some (.lst _) => T == "list"
    | some (.rdl _) => T == "list"
    | some (.dic _) => T == "dict"
    | some (.dit _) => T == "dict"
    | _ => false
  | _ => false
def mMeth (T : String) (g : D → List D → HP → Option (D × HP)) (a : ME) (t : MA) : ME := fun s h => (a s h).bind fun x h => bif tyB T x h then (t s h).bind fun xs h => ofO (g x xs h) else .bad
theorem tyB_ok {T : String} {d : D} {v : V} (rp : Rep K mg r h H) (rl : RelD K mg r H d v) (e : tyB T d h = true) : tyV K T v H := by
  unfold tyB at e
  cases rl with
  | str x => exact beq_iff_eq.mp e
  | @ref i ad ea =>
    dsimp only at e
    split at e
    · rename_i xs hx
      obtain ⟨vs, sq, _⟩ := list_at rp ea (.inl hx)
      exact .inl ⟨beq_iff_eq.mp e, vs, sq⟩
    · rename_i xs hx
      obtain ⟨vs, sq, _⟩ := list_at rp ea (.inr hx)
      exact .inl ⟨beq_iff_eq.mp e, vs, sq⟩
    · rename_i xs hx
      obtain ⟨vs, q, _⟩ := rp.obs _ _ ad hx ea
      exact .inr (.inr (.inl ⟨beq_iff_eq.mp e, .inl ⟨vs, q⟩⟩))
    · rename_i xs hx
      obtain ⟨vs, q, _⟩ := rp.obs _ _ ad hx ea
      exact .inr (.inr (.inl ⟨beq_iff_eq.mp e, .inr ⟨vs, q⟩⟩))
    · cases e
  | _ => cases e
theorem qe_bm {T id : String} {name : Str} {g : D → List D → HP → Option (D × HP)} (pa : PlainAttrs T) (slot : Slot T name id) (hty : typeOf (.builtin id) = pure (.type "method_descriptor")) (hm : MtR X id (rVm X.K X.mg g)) (ho : QE X W o ma) (ha : QA X W (e :: es) t)
    (hbase : attributeBase o name X.env (eval o X.env) = eval o X.env := by rfl)
    (hfew : ((backTo cpos (starEach (e :: es) X.env)).all (fun x => !x.1) && (backToKw cpos (keywordEach [] X.env)).all (fun x => x.1.isSome)
      && decide ((e :: es).length + ([] : List Keyword).length + (if ([] : List Keyword).isEmpty then 0 else 1) < 30)) = true := by rfl)
    (hline : (apos.endLine == cpos.line) = true := by rfl) (hs : starEach (e :: es) X.env = (false, eval e X.env) :: starEach es X.env := by rfl) (hplain : (backTo cpos (starEach es X.env)).any (·.1) = false := by rfl) :
    QE X W (.Call (.Attribute o name apos) (e :: es) [] cpos) (mMeth T g ma t) := (pe_bm pa slot hty hm ho ha hbase hfew hline hs hplain).imp fun σ H Q q => by
  obtain ⟨r, s, h, rp, rs, p⟩ := tM.bind (rr1 := rD) (m := ma) (k := fun s x h => bif tyB T x h then (t s h).bind fun xs h => ofO (g x xs h) else R.bad) q
  refine ⟨r, s, h, rp, rs, p.imp fun x H1 ⟨r1, s1, d, h1, rp1, rs1, rl1, p1⟩ => ?_⟩
  cases z : tyB T d h1 with
  | false => rw [z] at p1; exact p1.elim
  | true =>
    rw [z] at p1
    refine ⟨tyB_ok rp1 rl1 z, r1, s1, h1, rp1, rs1, (Post.bind (rr1 := rDs) p1).imp fun y H2 ⟨r2, ds, h2, e2, k2, rp2, rl2, p2⟩ => ?_⟩
    exact ⟨r2, d, ds, h2, rp2, rl1.mono e2 k2, rl2, p2.ofO⟩
def appendG : D → List D → HP → Option (D × HP) := fun x ds h => match x, ds with
  | .ref i, [d] => match h[i]? with
    | some (.lst xs) => if xs.length < 1000000 then some (.non, h.set i (.lst (xs ++ [d]))) else none
    | _ => none
  | _, _ => none
theorem mt_appendG : MtR X "list.append" (rVm X.K X.mg appendG) := by
  intro pins s σ H x xs v us Q I rx rv ⟨r, d, ds, h, rp, rl, rls, p⟩
  unfold appendG at p
  split at p
  · rename_i i d'
    obtain ⟨w, rfl, rd⟩ := one_of (ds := []) rls
    cases rl with
    | @ref i ad ea =>
      split at p
      · rename_i ys hy
        obtain ⟨vs, q, rly⟩ := rp.obs _ _ ad hy ea
        by_cases hz : ys.length < 1000000
        · rw [if_pos hz] at p
          have st := rp.set (u := .lst (vs ++ [w])) (o' := .lst (ys ++ [d'])) hy rfl rfl ea fun k => ⟨_, upd_same, (rly.mono (Ext.refl _) k).append (.cons (rd.mono (Ext.refl _) k) .nil)⟩
          exact mt_append pins s σ H _ _ v us Q I rx rv ⟨ad, vs, w, rfl, rfl, q, line_lt (by rw [← rly.length]; exact hz), p r .non _ (Ext.refl _) st.2 st.1 .non⟩
        · rw [if_neg hz] at p; exact p.elim
      · exact p.elim
  · exact p.elim
def extendG : D → List D → HP → Option (D × HP) := fun x ds h => match x, ds with
  | .ref i, [.ref j] => match h[i]?, h[j]? with
    | some (.lst xs), some (.lst ys) => if xs.length + ys.length ≤ 1000000 then some (.non, h.set i (.lst (xs ++ ys))) else none
    | _, _ => none
  | _, _ => none
theorem mt_extendG : MtR X "list.extend" (rVm X.K X.mg extendG) := by
  intro pins s σ H x xs v us Q I rx rv ⟨r, d, ds, h, rp, rl, rls, p⟩
  unfold extendG at p
  split at p
  · rename_i i j
    obtain ⟨w, rfl, rd⟩ := one_of (ds := []) rls
    cases rl with
    | @ref i ad ea =>
      cases rd with
      | @ref j bd eb =>
        split at p
        · rename_i ys zs hy hz'
          obtain ⟨vs, q, rly⟩ := rp.obs _ _ ad hy ea
          obtain ⟨ws, q2, rlz⟩ := rp.obs _ _ bd hz' eb
          by_cases hz : ys.length + zs.length ≤ 1000000
          · rw [if_pos hz] at p
            have st := rp.set (u := .lst (vs ++ ws)) (o' := .lst (ys ++ zs)) hy rfl rfl ea fun k => ⟨_, upd_same, (rly.mono (Ext.refl _) k).append (rlz.mono (Ext.refl _) k)⟩
            exact mt_extend pins s σ H _ _ v us Q I rx rv ⟨ad, bd, vs, ws, rfl, rfl, q, q2, line_of (by rw [← rly.length, ← rlz.length]; exact hz), p r .non _ (Ext.refl _) st.2 st.1 .non⟩
          · rw [if_neg hz] at p; exact p.elim
        · exact p.elim
  · exact p.elim
def splitG : D → List D → HP → Option (D × HP) := fun x ds h => match x, ds with
  | .str a, [.str b] => if (b.length == 0) = false ∧ a.length ≤ 1000000 then some (.ref h.length, h ++ [.lst ((Txt.split a b).map D.str)]) else none
  | _, _ => none
theorem mt_splitG : MtR X "str.split" (rVm X.K X.mg splitG) := by
  intro pins s σ H x xs v us Q I rx rv ⟨r, d, ds, h, rp, rl, rls, p⟩
  unfold splitG at p
  split at p
  · rename_i a b
    obtain ⟨w, rfl, rd⟩ := one_of (ds := []) rls
    cases rl
    cases rd
    by_cases hz : (b.length == 0) = false ∧ a.length ≤ 1000000
    · rw [if_pos hz] at p
      exact mt_split pins s σ H _ _ v us Q I rx rv ⟨a, b, rfl, rfl, hz.1, by have := hz.2; rw [sizeLine_eq]; omega, fun p' hp => p.lst rp (RelDs.strs _) hp⟩
    · rw [if_neg hz] at p; exact p.elim
  · exact p.elim
/-- a text's method of texts, whose answer is a plain value -/
def strG1 (g : Str → Str → D) : D → List D → HP → Option (D × HP) := fun x ds h => match x, ds with
  | .str a, [.str b] => some (g a b, h)
  | _, _ => none
theorem mt_strI {id : String} {g : Str → Str → Int} (m : MtR X id (fun x xs H Q => ∃ a b, x = .str a ∧ xs = [.str b] ∧ Q (.int (g a b)) H)) : MtR X id (rVm X.K X.mg (strG1 fun a b => .int (g a b))) := by
  intro pins s σ H x xs v us Q I rx rv ⟨r, d, ds, h, rp, rl, rls, p⟩
  unfold strG1 at p
  split at p
  · rename_i a b
    obtain ⟨w, rfl, rd⟩ := one_of (ds := []) rls
    cases rl
    cases rd
    exact m pins s σ H _ _ v us Q I rx rv ⟨a, b, rfl, rfl, p.here rp (.int _)⟩
  · exact p.elim
theorem mt_strB {id : String} {g : Str → Str → Bool} (m : MtR X id (fun x xs H Q => ∃ a b, x = .str a ∧ xs = [.str b] ∧ Q (.bl (g a b)) H)) : MtR X id (rVm X.K X.mg (strG1 fun a b => .bl (g a b))) := by
  intro pins s σ H x xs v us Q I rx rv ⟨r, d, ds, h, rp, rl, rls, p⟩
  unfold strG1 at p
  split at p
  · rename_i a b
    obtain ⟨w, rfl, rd⟩ := one_of (ds := []) rls
    cases rl
    cases rd
    exact m pins s σ H _ _ v us Q I rx rv ⟨a, b, rfl, rfl, p.here rp (.bl _)⟩
  · exact p.elim
def find4G : D → List D → HP → Option (D × HP) := fun x ds h => match x, ds with
  | .str a, [.str b, .int i, .int j] => some (.int (Txt.findIn a b i j), h)
  | _, _ => none
theorem mt_find4G : MtR X "str.find" (rVm X.K X.mg find4G) := by
  intro pins s σ H x xs v us Q I rx rv ⟨r, d, ds, h, rp, rl, rls, p⟩
  unfold find4G at p
  split at p
  · rename_i a b i j
    cases rl
    cases rls with
    | cons r1 rls =>
      cases rls with
      | cons r2 rls =>
        cases rls with
        | cons r3 rls =>
          cases rls
          cases r1; cases r2; cases r3
          exact mt_find4 pins s σ H _ _ v us Q I rx rv ⟨a, b, i, j, rfl, rfl, p.here rp (.int _)⟩
  · exact p.elim
end
end PM
end
section
set_option Elab.async false
set_option linter.all false
set_option maxRecDepth 100000
set_option maxHeartbeats 1000000
namespace PM
open PySem PySem.Spec PyProof.Rows L2

section
variable {X : Cx} {K : PySem.W.Frag} {mg : Str → Option Value} {r : List Addr} {H : Hp} {h : HP} {W : WX} {a b c e o i elt value : Expr} {es rest : List Expr} {ma mb mc : ME} {t : MA} {pos pos' apos cpos : Pos}

/-! ### dicts -/
def keyD : D → Option Key
  | .int i => some (.inl i)
  | .str x => some (.inr x)
  | _ => none
theorem key_rel {d : D} {v : V} {k : Key} (rl : RelD K mg r H d v) (e : keyD d = some k) : v = kV k := by
  cases rl <;> first | (cases e; rfl) | cases e
def getK {κ : Type} [DecidableEq κ] (kvs : List (κ × D)) (k : κ) : Option D := (kvs.find? fun kv => decide (kv.1 = k)).map (·.2)
def setK {κ : Type} [DecidableEq κ] (kvs : List (κ × D)) (k : κ) (d : D) : List (κ × D) :=
  if (kvs.any fun kv => decide (kv.1 = k)) = true then kvs.map (fun kv => if kv.1 = k then (kv.1, d) else kv) else kvs ++ [(k, d)]
theorem getK_rel {κ : Type} [DecidableEq κ] : ∀ {kvs : List (κ × D)} {vs : List (κ × V)} {k : κ} {d : D}, RelP K mg r H kvs vs → getK kvs k = some d → ∃ v, valV vs k = some v ∧ RelD K mg r H d v
  | _, _, _, _, .nil, e => by cases e
  | (k1, d1) :: kvs, (k2, v2) :: vs, k, d, .cons q t, e => by
    obtain ⟨q1, q2⟩ := q
    have q1 : k1 = k2 := q1
    subst q1
    by_cases hk : k1 = k
    · have e1 : getK ((k1, d1) :: kvs) k = some d1 := by simp [getK, List.find?_cons, hk]
      rw [e1] at e; cases e
      exact ⟨v2, valV_pos hk, q2⟩
    · have e1 : getK ((k1, d1) :: kvs) k = getK kvs k := by simp [getK, List.find?_cons, hk]
      rw [e1] at e
      obtain ⟨v, z1, z2⟩ := getK_rel t e
      exact ⟨v, by rw [valV_neg hk]; exact z1, z2⟩
theorem any_rel {κ : Type} [DecidableEq κ] : ∀ {kvs : List (κ × D)} {vs : List (κ × V)} {k : κ}, RelP K mg r H kvs vs → (kvs.any fun kv => decide (kv.1 = k)) = vs.any fun kv => decide (kv.1 = k)
  | _, _, _, .nil => rfl
  | _, _, k, .cons q t => by
    rw [List.any_cons, List.any_cons, any_rel t, q.1]
theorem map_rel {κ : Type} [DecidableEq κ] {k : κ} {d : D} {v : V} (rd : RelD K mg r H d v) : ∀ {kvs : List (κ × D)} {vs : List (κ × V)}, RelP K mg r H kvs vs → RelP K mg r H (kvs.map fun kv => if kv.1 = k then (kv.1, d) else kv) (vs.map fun kv => if kv.1 = k then (kv.1, v) else kv)
  | _, _, .nil => .nil
  | kv :: kvs, vv :: vs, .cons q t => by
    rw [List.map_cons, List.map_cons]
    refine .cons ?_ (map_rel rd t)
    by_cases hk : kv.1 = k
    · rw [if_pos hk, if_pos (q.1 ▸ hk)]; exact ⟨q.1, rd⟩
    · rw [if_neg hk, if_neg (q.1 ▸ hk)]; exact q
theorem snoc_rel {κ : Type} [DecidableEq κ] {k : κ} {d : D} {v : V} (rd : RelD K mg r H d v) : ∀ {kvs : List (κ × D)} {vs : List (κ × V)}, RelP K mg r H kvs vs → RelP K mg r H (kvs ++ [(k, d)]) (vs ++ [(k, v)])
  | _, _, .nil => .cons ⟨rfl, rd⟩ .nil
  | _, _, .cons q t => .cons q (snoc_rel rd t)
theorem setK_rel {κ : Type} [DecidableEq κ] {k : κ} {d : D} {v : V} (rd : RelD K mg r H d v) {kvs : List (κ × D)} {vs : List (κ × V)} (q : RelP K mg r H kvs vs) : RelP K mg r H (setK kvs k d) (putK vs k v) := by
  unfold setK putK
  rw [any_rel q]
  by_cases hz : (vs.any fun kv => decide (kv.1 = k)) = true
  · rw [if_pos hz, if_pos hz]; exact map_rel rd q
  · rw [if_neg hz, if_neg hz]; exact snoc_rel rd q
theorem len_rel {κ : Type} : ∀ {kvs : List (κ × D)} {vs : List (κ × V)}, RelP K mg r H kvs vs → kvs.length = vs.length
  | _, _, .nil => rfl
  | _, _, .cons _ t => by rw [List.length_cons, List.length_cons, len_rel t]
/-- x[y]: of a text, a tuple, a list, a dict -/
def itemG : D → D → HP → Option (D × HP) := fun x y h => match x with
  | .ref j => match h[j]? with
    | some (.dic kvs) => (keyD y).bind fun k => (getK kvs k).map fun d => (d, h)
    | _ => ixG x y h
  | _ => ixG x y h
theorem qe_sub (hu : X.A.units + 1 < cLine) (ha : QE X W a ma) (hb : QE X W b mb) (hs : PlainIx b := by exact fun _ _ => rfl) (hs2 : NoSl b := by exact fun _ _ => rfl) : QE X W (.Subscript a b pos) (m2 itemG ma mb) := by
  have h1 := pe_ix (pos := pos) ix_G ha hb hs
  have h2 := pe_dget (pos := pos) hu ha hb hs2
  refine ⟨fun pins s σ H Q I q => ?_⟩
  obtain ⟨r0, s0, h0, rp0, rs0, p0⟩ := q
  -- is it a dict?
  by_cases hd : ∃ x h1 y h2 j kvs, ma s0 h0 = .ok x h1 ∧ mb s0 h1 = .ok y h2 ∧ x = .ref j ∧ h2[j]? = some (.dic kvs)
  · refine h2.run pins s σ H Q I ?_
    obtain ⟨x, h1, y, h2, j, kvs, e1, e2, rfl, e4⟩ := hd
    refine ⟨r0, s0, h0, rp0, rs0, ?_⟩
    have p1 : Post X.K X.mg rD W r0 σ H Q ((mb s0 h1).bind fun y h => ofO (itemG (.ref j) y h)) := by
      have z : m2 itemG ma mb s0 h0 = (mb s0 h1).bind fun y h => ofO (itemG (.ref j) y h) := by unfold m2; rw [e1]; rfl
      rw [← z]; exact p0
    rw [e1]
    intro r1 v H1 x1 k1 rp1 rl1
    refine ⟨r1, s0, h1, rp1, rs0.mono x1 k1, ?_⟩
    rw [e2] at p1 ⊢
    have p2 : Post X.K X.mg rD W r0 σ H Q (ofO (itemG (.ref j) y h2)) := p1
    have p3 := p2.ofO
    unfold itemG at p3
    dsimp only at p3
    rw [e4] at p3
    dsimp only at p3
    intro r2 u H2 x2 k2 rp2 rl2
    cases z : keyD y with
    | none => rw [z] at p3; exact p3.elim
    | some k =>
      rw [z] at p3
      have p3 : PostV X.K X.mg r0 H Q ((getK kvs k).map fun d => (d, h2)) := p3
      cases z2 : getK kvs k with
      | none => rw [z2] at p3; exact p3.elim
      | some d =>
        rw [z2] at p3
        cases rl1 with
        | ref ea =>
          obtain ⟨vs, q, rlv⟩ := rp2.obs _ _ _ e4 (x2.get ea)
          obtain ⟨v', z3, z4⟩ := getK_rel rlv z2
          refine ⟨_, v', rfl, ?_, p3 r2 v' H2 (x1.trans x2) (k1.trans k2) rp2 z4⟩
          rw [key_rel rl2 z, ← z3]
          exact DGet.k q
  · refine h1.run pins s σ H Q I (two ⟨r0, s0, h0, rp0, rs0, ?_⟩)
    have z : m2 itemG ma mb s0 h0 = m2 ixG ma mb s0 h0 := by
      unfold m2
      cases e1 : ma s0 h0 with
      | ok x h1 =>
        show ((mb s0 h1).bind fun y h => ofO (itemG x y h)) = (mb s0 h1).bind fun y h => ofO (ixG x y h)
        cases e2 : mb s0 h1 with
        | ok y h2 =>
          show ofO (itemG x y h2) = ofO (ixG x y h2)
          congr 1
          unfold itemG
          cases x with
          | ref j =>
            dsimp only
            split
            · rename_i kvs e4
              exact absurd ⟨_, h1, y, h2, j, kvs, e1, e2, rfl, e4⟩ hd
            · rfl
          | _ => rfl
        | exc c fs h2 => rfl
        | bad => rfl
      | exc c fs h1 => rfl
      | bad => rfl
    rw [← z]; exact p0
/-- x[y] = value, x a dict or a list: the value first -/
def putG : D → D → D → HP → Option HP := fun x y v h => match x with
  | .ref j => match h[j]? with
    | some (.dic kvs) => (keyD y).bind fun k => if kvs.length < 1000000 then some (h.set j (.dic (setK kvs k v))) else none
    | _ => none
  | _ => none
def mPutD (mv mo mi : ME) : MS := fun s h => (mv s h).toS s fun v h => (mo s h).toS s fun x h => (mi s h).toS s fun y h => match putG x y v h with
  | some h => .nx s h
  | none => .bad
theorem qs_putD {mv mo mi : ME} (hu : X.A.units + 1 < cLine) (hv : QE X W value mv) (ho : QE X W o mo) (hi : QE X W i mi) (hs : swapsWith value (some (.Subscript o i pos')) pos.line X.env = pure false := by rfl) : QS X W (.Assign [.Subscript o i pos'] value pos) (mPutD mv mo mi) :=
  (ps_dput hu ho hi hv hs).imp fun D0 σ H q => by
    obtain ⟨r, s, h, rp, rs, p⟩ := q
    unfold mPutD at p
    refine ⟨r, s, h, rp, rs, (PostS.ofE (rr := rD) rs p).imp fun v H1 ⟨r1, dv, h1, e1, k1, rp1, rl1, p1⟩ => ?_⟩
    have rs1 := rs.mono e1 k1
    refine ⟨r1, s, h1, rp1, rs1, (PostS.ofE (rr := rD) rs1 p1).imp fun x H2 ⟨r2, dx, h2, e2, k2, rp2, rl2, p2⟩ => ?_⟩
    have rs2 := rs1.mono e2 k2
    refine ⟨r2, s, h2, rp2, rs2, (PostS.ofE (rr := rD) rs2 p2).imp fun y H3 ⟨r3, dy, h3, e3, k3, rp3, rl3, p3⟩ => ?_⟩
    have rs3 := rs2.mono e3 k3
    have rl1 := (RelD.mono e2 k2 rl1).mono e3 k3
    have rl2 := RelD.mono e3 k3 rl2
    cases z : putG dx dy dv h3 with
    | none => rw [z] at p3; exact p3.elim
    | some h4 =>
      rw [z] at p3
      unfold putG at z
      cases rl2 with
      | @ref j ad ea =>
        dsimp only at z
        split at z
        · rename_i kvs hk
          cases z2 : keyD dy with
          | none => rw [z2] at z; cases z
          | some k =>
            rw [z2] at z
            have z : (if kvs.length < 1000000 then some (h3.set j (.dic (setK kvs k dv))) else none) = some h4 := z
            by_cases hz : kvs.length < 1000000
            · rw [if_pos hz] at z
              cases z
              obtain ⟨vs, q, rlv⟩ := rp3.obs _ _ ad hk ea
              have st := rp3.set (u := .dK (putK vs k v)) (o' := .dic (setK kvs k dv)) hk rfl rfl ea fun kp => ⟨_, upd_same, setK_rel (rl1.mono (Ext.refl _) kp) (RelP.mono (Ext.refl _) kp rlv)⟩
              refine ⟨ad, _, rfl, by rw [key_rel rl3 z2]; exact DPut.k q (line_lt (by rw [← len_rel rlv]; exact hz)), ?_⟩
              exact p3 r3 σ _ (Ext.refl _) st.2 st.1 (rs3.mono (Ext.refl _) st.2)
            · rw [if_neg hz] at z; cases z
        · cases z
      | _ => cases z
/-- {k: v, ..} -/
def mPairs : List (ME × ME) → SD → HP → R (List (D × D))
  | [], _, h => .ok [] h
  | (mk, mv) :: r, s, h => (mk s h).bind fun x h => (mv s h).bind fun y h => (mPairs r s h).bind fun ps h => .ok ((x, y) :: ps) h
def keysD : List (D × D) → Option (List (Key × D))
  | [] => some []
  | (x, y) :: r => match keyD x, keysD r with
    | some k, some ps => some ((k, y) :: ps)
    | _, _ => none
def mergeD (kvs more : List (Key × D)) : List (Key × D) := more.foldl (fun acc kv => setK acc kv.1 kv.2) kvs
def isDic0 : Option Ob → Bool
  | some (.dic []) => true
  | _ => false
def mDisp (ps : List (ME × ME)) : ME := fun s h => (mPairs ps s (h ++ [.dic []])).bind fun qs h2 => match keysD qs with
  | some kvs => bif isDic0 h2[h.length]? && decide (kvs.length ≤ 15) then .ok (.ref h.length) (h2.set h.length (.dic (mergeD [] kvs))) else .bad
  | none => .bad
def rDD : RR (List (D × D)) (List (V × V)) := ⟨fun K mg r H => Paired fun p q => RelD K mg r H p.1 q.1 ∧ RelD K mg r H p.2 q.2, fun e k h => L2.Paired.mapP h fun p q z => ⟨z.1.mono e k, z.2.mono e k⟩⟩
def QP (X : Cx) (W : WX) (pos : Pos) (keys : List (Option Expr)) (values : List Expr) (ms : List (ME × ME)) : Prop := PPs X pos keys values (ms.map fun p => (tM X.K X.mg rD W p.1, tM X.K X.mg rD W p.2))
theorem qp_nil : QP X W pos [] [] [] := pps_nil
theorem qp_cons {ks : List (Option Expr)} {vs : List Expr} {ms : List (ME × ME)} (hk : QE X W a ma) (hv : QE X W b mb) (hr : QP X W pos ks vs ms) : QP X W pos (some a :: ks) (b :: vs) ((ma, mb) :: ms) := pps_cons hk hv hr
theorem pairs_run {σ : L2.St} : ∀ (ms : List (ME × ME)) {r : List Addr} {s : SD} {h : HP} {H : Hp} {Q : List (V × V) → Hp → Prop}, Rep K mg r h H → RelSt K mg r H s σ → Post K mg rDD W r σ H Q (mPairs ms s h) →
    tPairs (ms.map fun p => (tM K mg rD W p.1, tM K mg rD W p.2)) σ H Q
  | [], r, s, h, H, Q, rp, rs, p => Post.here (rr := rDD) p rp .nil
  | (mk, mv) :: ms, r, s, h, H, Q, rp, rs, p => by
    unfold mPairs at p
    refine ⟨r, s, h, rp, rs, (Post.bind (rr1 := rD) p).imp fun x H1 ⟨r1, dx, h1, e1, k1, rp1, rl1, p1⟩ => ?_⟩
    refine ⟨r1, s, h1, rp1, rs.mono e1 k1, (Post.bind (rr1 := rD) p1).imp fun y H2 ⟨r2, dy, h2, e2, k2, rp2, rl2, p2⟩ => ?_⟩
    refine pairs_run ms rp2 ((rs.mono e1 k1).mono e2 k2) ((Post.bind (rr1 := rDD) p2).imp fun ps H3 ⟨r3, qs, h3, e3, k3, rp3, rl3, p3⟩ => ?_)
    exact Post.here (rr := rDD) p3 rp3 (.cons ⟨(RelD.mono e2 k2 rl1).mono e3 k3, RelD.mono e3 k3 rl2⟩ rl3)
theorem keysD_rel : ∀ {qs : List (D × D)} {ps : List (V × V)} {kvs : List (Key × D)}, Paired (fun p q => RelD K mg r H p.1 q.1 ∧ RelD K mg r H p.2 q.2) qs ps → keysD qs = some kvs → ∃ vs : List (Key × V), ps = vs.map (fun kv => (kV kv.1, kv.2)) ∧ RelP K mg r H kvs vs
  | _, _, _, .nil, e => by cases e; exact ⟨[], rfl, .nil⟩
  | (x, y) :: qs, (u, w) :: ps, kvs, .cons q t, e => by
    unfold keysD at e
    cases z1 : keyD x with
    | none => rw [z1] at e; cases e
    | some k =>
      cases z2 : keysD qs with
      | none => rw [z1, z2] at e; cases e
      | some kvs' =>
        rw [z1, z2] at e
        cases e
        obtain ⟨vs, z3, z4⟩ := keysD_rel t z2
        have z5 : u = kV k := key_rel q.1 z1
        subst z5 z3
        exact ⟨(k, w) :: vs, rfl, .cons ⟨rfl, q.2⟩ z4⟩
theorem mergeD_rel : ∀ {more : List (Key × D)} {mvs : List (Key × V)} {kvs : List (Key × D)} {vs : List (Key × V)}, RelP K mg r H more mvs → RelP K mg r H kvs vs → RelP K mg r H (mergeD kvs more) (mergeK vs mvs)
  | _, _, _, _, .nil, q => q
  | _, _, _, _, .cons p t, q => by
    unfold mergeD mergeK
    rw [List.foldl_cons, List.foldl_cons, p.1]
    exact mergeD_rel t (setK_rel p.2 q)
theorem qe_disp {keys : List (Option Expr)} {values : List Expr} {ms : List (ME × ME)} (hp : QP X W pos keys values ms) (hall : keys.all (·.isSome) = true := by rfl) (hl : keys.length = values.length := by rfl) (h0 : keys ≠ [] := by exact fun z => by cases z)
    (h15 : keys.length ≤ 15 := by decide) : QE X W (.Dict keys values pos) (mDisp ms) := (pe_disp hp hall hl h0 h15).imp fun σ H Q q => by
  obtain ⟨r, s, h, rp, rs, p⟩ := q
  intro ad hn
  have kn : Keep H (upd H ad (.dK [])) := Keep.new hn
  have rp1 : Rep X.K X.mg (r ++ [ad]) (h ++ [.dic []]) (upd H ad (.dK [])) := rp.new hn ⟨[], upd_same, .nil⟩
  have p1 := Post.mono p (Ext.one r ad) kn
  unfold mDisp at p1
  refine pairs_run ms rp1 (rs.mono (Ext.one r ad) kn) ((Post.bind (rr1 := rDD) p1).imp fun ps H2 ⟨r2, qs, h2, e2, k2, rp2, rl2, p2⟩ => ?_)
  cases z : keysD qs with
  | none => rw [z] at p2; exact p2.elim
  | some kvs =>
    rw [z] at p2
    dsimp only at p2
    cases z2 : isDic0 h2[h.length]? && decide (kvs.length ≤ 15) with
    | false => rw [z2] at p2; exact p2.elim
    | true =>
      rw [z2] at p2
      obtain ⟨z3, z4⟩ := Bool.and_eq_true_iff.mp z2
      have z5 : h2[h.length]? = some (.dic []) := by
        unfold isDic0 at z3
        split at z3
        · assumption
        · cases z3
      have ea : r2[h.length]? = some ad := e2.get (by rw [List.getElem?_append_right (by rw [rp.len]; exact Nat.le_refl _), rp.len]; simp)
      obtain ⟨vs0, q0, rl0⟩ := rp2.obs _ _ ad z5 ea
      cases rl0
      obtain ⟨vs, z6, z7⟩ := keysD_rel rl2 z
      refine ⟨q0, vs, z6, by rw [← len_rel z7]; exact of_decide_eq_true z4, ?_⟩
      have st := rp2.set (u := .dK (mergeK [] vs)) (o' := .dic (mergeD [] kvs)) z5 rfl rfl ea fun kp => ⟨_, upd_same, mergeD_rel (RelP.mono (Ext.refl _) kp z7) .nil⟩
      exact p2 r2 _ _ (Ext.refl _) st.2 st.1 (.ref ea)
/-- {} with keys to come: numbers, texts -/
def mDict0 : ME := fun _ h => .ok (.ref h.length) (h ++ [.dic []])
theorem qe_dict0 : QE X W (.Dict [] [] pos) mDict0 := pe_dnewK.imp fun σ H Q ⟨r, s, h, rp, rs, p⟩ => by
  intro ad hn
  refine p (r ++ [ad]) _ _ (Ext.one r ad) (Keep.new hn) (rp.new hn ⟨[], upd_same, .nil⟩) (.ref ?_)
  rw [List.getElem?_append_right (by rw [rp.len]; exact Nat.le_refl _), rp.len]; simp

/-! ### comprehensions over one name -/
abbrev W0 : WX := fun _ _ _ _ => False
def mYes : MT := fun _ h => .ok true h
abbrev QTs (X : Cx) (ifs : List Expr) (m : MT) : Prop := PTs X ifs (tM X.K X.mg rB W0 m)
theorem _root_.L2.PTs.imp {X : Cx} {e : List Expr} {t t' : TT} (h : PTs X e t) (f : ∀ σ H Q, t' σ H Q → t σ H Q) : PTs X e t' := ⟨fun pins s σ H Q I q => h.run pins s σ H Q I (f σ H Q q)⟩
theorem qts_nil : QTs X [] mYes := pts_nil.imp fun σ H Q ⟨r, s, h, rp, rs, p⟩ => Post.here (rr := rB) p rp rfl
theorem qts_one {m : MT} (hc : QT X W0 c m) : QTs X [c] m := pts_one hc
open Classical in
noncomputable def lcLoop (G : HP → Prop) (i : Nat) (c : MT) (el : ME) (n : Nat) : List D → SD → HP → R D
  | [], _, h => if G h then .ok (.ref n) h else .bad
  | d :: ds, s, h => if G h then (match c (s.set i (some d)) h with
    | .ok true h => (match el (s.set i (some d)) h with
      | .ok y h => (match h[n]? with
        | some (.lst acc) => if acc.length < 1000000 then lcLoop G i c el n ds s (h.set n (.lst (acc ++ [y]))) else .bad
        | _ => .bad)
      | _ => .bad)
    | .ok false h => lcLoop G i c el n ds s h
    | _ => .bad) else .bad
noncomputable def mLc (it : MI) (i : Nat) (c : MT) (el : ME) : ME := fun s h => (it s h).bind fun x h => lcLoop x.2 i c el h.length x.1 (s.set i none) (h ++ [.lst []])
theorem set_set {α : Type} : ∀ (l : List α) (i : Nat) (x y : α), (l.set i x).set i y = l.set i y
  | [], _, _, _ => rfl
  | _ :: _, 0, _, _ => rfl
  | a :: l, i + 1, x, y => by simp
theorem qe_lc {tg iter : Expr} {ifs : List Expr} {scope : Scope} {x : Str} {i : Nat} {mi : MI} {m : MT} (hc : X.calm = true) (hN : X.N.Nodup) (hi : QI X W tg iter mi) (ok : BlkOk X.N X.env.scope scope [(x, i)])
    (hg : ∀ (s : Shared) (H : Hp) (C : Addr) (cl : List (Str × Addr)) (fp : List Addr), PG (X.blk s H scope (compEnvC scope cl C X.env) fp) tg (gName i)) (ht : ∀ (s : Shared) (H : Hp) (C : Addr) (cl : List (Str × Addr)) (fp : List Addr), QTs (X.blk s H scope (compEnvC scope cl C X.env) fp) ifs m)
    (he : ∀ (s : Shared) (H : Hp) (C : Addr) (cl : List (Str × Addr)) (fp : List Addr), QE (X.blk s H scope (compEnvC scope cl C X.env) fp) W0 elt ma) (hs : ∀ x, foldedSetIterable iter X.env x = pure x := by intro _; rfl) :
    QE X W (.ListComp elt [⟨tg, iter, ifs, 0⟩] scope pos) (mLc mi i m ma) := (pe_lc (own := [(x, i)]) (tt := tM X.K X.mg rB W0 m) (te := tM X.K X.mg rD W0 ma) hc hN hi ok hg ht he hs).imp fun σ H Q q => by
  obtain ⟨r, s, h, rp, rs, p⟩ := q
  refine ⟨r, s, h, rp, rs, ?_⟩
  unfold mLc at p
  cases z : mi s h with
  | exc c fs h' => rw [z] at p; exact p
  | bad => rw [z] at p; exact p.elim
  | ok y h' =>
    rw [z] at p
    obtain ⟨ds, G⟩ := y
    have p : Post X.K X.mg rD W r σ H Q (lcLoop G i m ma h'.length ds (s.set i none) (h' ++ [.lst []])) := p
    intro r0 H0 J e0 k0 rp0 j Dl hn
    have kn : Keep H0 (upd H0 Dl (.lst [])) := Keep.new hn
    have rp1 : Rep X.K X.mg (r0 ++ [Dl]) (h' ++ [.lst []]) (upd H0 Dl (.lst [])) := rp0.new hn ⟨[], upd_same, .nil⟩
    have ea : (r0 ++ [Dl])[h'.length]? = some Dl := by rw [List.getElem?_append_right (by rw [rp0.len]; exact Nat.le_refl _), rp0.len]; simp
    have rs0 : RelSt X.K X.mg (r0 ++ [Dl]) (upd H0 Dl (.lst [])) (s.set i none) (wipe σ [i]) := ((rs.mono e0 k0).mono (Ext.one r0 Dl) kn).unset i
    refine ⟨fun n md H => md = ds.length - n ∧ ∃ r h, Ext (r0 ++ [Dl]) r ∧ Keep (upd H0 Dl (.lst [])) H ∧ Rep X.K X.mg r h H ∧ RelSt X.K X.mg r H (s.set i none) (wipe σ [i]) ∧ Post X.K X.mg rD W r σ H Q (lcLoop G i m ma h'.length (ds.drop n) (s.set i none) h), ⟨ds.length, by simp, r0 ++ [Dl], h' ++ [.lst []], Ext.refl _, Keep.refl _, rp1, rs0, by simpa using Post.mono (Post.mono p e0 k0) (Ext.one r0 Dl) kn⟩, ?_⟩
    rintro n md H1 ⟨rfl, r1, h1, e1, k1, rp1, rs1, p1⟩
    rcases Nat.lt_or_ge n ds.length with hlt | hge
    · rw [List.drop_eq_getElem_cons hlt] at p1
      unfold lcLoop at p1
      by_cases hG : G h1
      · rw [if_pos hG] at p1
        obtain ⟨j1, _⟩ := j n r1 H1 h1 ((Ext.one r0 Dl).trans e1) (kn.trans k1) rp1 hG
        obtain ⟨go, yl⟩ := j1 _ (List.getElem?_eq_getElem hlt)
        refine .inr ⟨go, fun H' => ∃ r h, Ext (r0 ++ [Dl]) r ∧ Keep (upd H0 Dl (.lst [])) H' ∧ Rep X.K X.mg r h H' ∧ RelSt X.K X.mg r H' (s.set i none) (wipe σ [i]) ∧ Post X.K X.mg rD W r σ H' Q (lcLoop G i m ma h'.length (ds.drop (n + 1)) (s.set i none) h), fun H' q => ⟨ds.length - (n + 1), by omega, rfl, q⟩, fun v H2 y2 => ?_⟩
        obtain ⟨k2, rp2, rl2⟩ := yl v H2 y2
        have rs2 := rs1.mono (Ext.refl _) k2
        have rs3 := rs2.set i rl2
        show wipe ((wipe σ [i]).set i (some v)) [i] = wipe σ [i] ∧ _
        refine ⟨by show ((σ.set i none).set i (some v)).set i none = σ.set i none; rw [set_set, set_set], ?_⟩
        have p2 := Post.mono p1 (Ext.refl _) k2
        refine ⟨r1, (s.set i none).set i (some ds[n]), h1, rp2, rs3, ?_⟩
        cases zc : m ((s.set i none).set i (some ds[n])) h1 with
        | exc c fs h3 => rw [zc] at p2; exact p2.elim
        | bad => rw [zc] at p2; exact p2.elim
        | ok bb h3 =>
          rw [zc] at p2
          intro r3 bb' H3 e3 k3 rp3 rlb
          have rlb : bb = bb' := rlb
          subst rlb
          cases bb with
          | false =>
            have p3 := Post.mono p2 e3 k3
            exact ⟨r3, h3, e1.trans e3, (k1.trans k2).trans k3, rp3, rs2.mono e3 k3, p3⟩
          | true =>
            refine ⟨r3, (s.set i none).set i (some ds[n]), h3, rp3, rs3.mono e3 k3, ?_⟩
            have p3 := Post.mono p2 e3 k3
            dsimp only at p3
            cases ze : ma ((s.set i none).set i (some ds[n])) h3 with
            | exc c fs h4 => rw [ze] at p3; exact p3.elim
            | bad => rw [ze] at p3; exact p3.elim
            | ok y h4 =>
              rw [ze] at p3
              intro r4 w H4 e4 k4 rp4 rly
              have p4 := Post.mono p3 e4 k4
              dsimp only at p4
              have ea4 : r4[h'.length]? = some Dl := e4.get (e3.get (e1.get ea))
              split at p4
              · rename_i acc hacc
                by_cases hz : acc.length < 1000000
                · rw [if_pos hz] at p4
                  obtain ⟨vs, qv, rlv⟩ := rp4.obs _ _ Dl hacc ea4
                  have st := rp4.set (u := .lst (vs ++ [w])) (o' := .lst (acc ++ [y])) hacc rfl rfl ea4 fun kp => ⟨_, upd_same, (rlv.mono (Ext.refl _) kp).append (.cons (RelD.mono (Ext.refl _) kp rly) .nil)⟩
                  refine ⟨vs, qv, line_lt (by rw [← rlv.length]; exact hz), r4, _, (e1.trans e3).trans e4, (((k1.trans k2).trans k3).trans k4).trans st.2, st.1, ((rs2.mono e3 k3).mono e4 k4).mono (Ext.refl _) st.2, ?_⟩
                  exact Post.mono p4 (Ext.refl _) st.2
                · rw [if_neg hz] at p4; exact p4.elim
              · exact p4.elim
      · rw [if_neg hG] at p1; exact p1.elim
    · rw [List.drop_eq_nil_of_le hge] at p1
      unfold lcLoop at p1
      by_cases hG : G h1
      · rw [if_pos hG] at p1
        refine .inl ⟨(j n r1 H1 h1 ((Ext.one r0 Dl).trans e1) (kn.trans k1) rp1 hG).2 hge, ?_⟩
        exact p1 r1 _ H1 (Ext.refl _) (Keep.refl _) rp1 (.ref (e1.get ea))
      · rw [if_neg hG] at p1; exact p1.elim
end
end PM
end
section
set_option Elab.async false
set_option linter.all false
set_option maxRecDepth 100000
set_option maxHeartbeats 1000000
namespace PM
open PySem PySem.Spec PyProof.Rows L2

abbrev FnP (K : PySem.W.Frag) (x : Str) (st : Stmt) (f : Addr) (fd : FuncData) : Prop := FunD K x x (defArgs st) (defBody st) (defScope st) [] [] f fd
/-- a def of the module, no defaults: all that calls of it ask -/
structure FnM (P : Program) (w : World) (K : PySem.W.Frag) (mg : Str → Option Value) (base : Heap) (k : Nat) (x : Str) (ps : List Str) (m : List D → HP → R D) : Prop where
  ex : ∃ f fd, mg x = some (.ref f) ∧ PySem.W.keepIn K (.ref f) = true ∧ Binds K fd ps [] ∧ FnOk P w K mg base (L2.CX P w) k f fd ps (spM K mg ps.length m)
theorem FnM.mono {P : Program} {w : World} {K : PySem.W.Frag} {mg : Str → Option Value} {base : Heap} {j k : Nat} {x : Str} {ps : List Str} {m : List D → HP → R D} (F : FnM P w K mg base j x ps m) (h : j ≤ k) : FnM P w K mg base k x ps m :=
  let ⟨f, fd, a, b, c, d⟩ := F.ex
  ⟨f, fd, a, b, c, d.mono h⟩
theorem fnOk_mk {P : Program} {w : World} {K : PySem.W.Frag} {mg : Str → Option Value} {base : Heap} {x : Str} {st : Stmt} {N ps : List Str} {k : Nat} {body : MS} {f : Addr} {fd : FuncData} (F : FnP K x st f fd) (S : FnScope N ps (defScope st))
    (hb : ∀ (cdv : Value) (A : Around) (outer : List Env) (s : Shared) (H : Hp) (E : XK), Room k (A.deeper (envOfC x (defScope st) s.heap.objs.size f cdv)) →
      QSs (cxOf (L2.CX P w) P w K mg base N x (defScope st) f cdv A outer s H E) (fun cls d _ H => E cls d H) (defBody st) body) : FnOk P w K mg base (L2.CX P w) (k + 1) f fd ps (spM K mg ps.length (runDef N.length body)) := by
  refine F.ok S (fun vs H Q E ⟨r, ds, h, rp, rl, hl, p⟩ => by rw [← rl.length]; exact hl) (fun cdv A outer s H vs Q E hr ⟨r, ds, h, rp, rl, hl, p⟩ => ?_)
  refine ⟨_, hb cdv A outer s H E hr, r, _, h, rp, relSt_start (N := N) rl, ?_⟩
  unfold runDef at p
  show PostS K mg _ r H _ (body (ds.map some ++ List.replicate (N.length - ds.length) none) h)
  cases z : body (ds.map some ++ List.replicate (N.length - ds.length) none) h with
  | nx s' h' => rw [z] at p; exact fun r' σ' H' e k rp' rs' => p r' .non H' e k rp' .non
  | rt d h' => rw [z] at p; exact fun r' v H' e k rp' rl' => p r' v H' e k rp' rl'
  | bk s' h' => rw [z] at p; exact p.elim
  | ct s' h' => rw [z] at p; exact p.elim
  | exc s' c fs h' => rw [z] at p; exact fun r' σ' cls dd H' e k rp' rs' xr => p r' cls dd H' e k rp' xr
  | bad => rw [z] at p; exact p.elim
theorem fnM_mk {P : Program} {w : World} {K : PySem.W.Frag} {mg : Str → Option Value} {base : Heap} {x : Str} {st : Stmt} {N ps : List Str} {k : Nat} {body : MS} {f : Addr} (F : ∃ fd, FnP K x st f fd) (gm : mg x = some (.ref f)) (S : FnScope N ps (defScope st))
    (bi : ∀ (kV doc pm : Value) (an : Option Addr) (cdv ct : Value) (us : List Value), us.length = ps.length → bindArgs (PySem.W.fnOf x x (defArgs st) (defBody st) (defScope st) .none kV doc pm an cdv ct) ⟨us, []⟩ = pure (ps.zip us))
    (hb : ∀ (cdv : Value) (A : Around) (outer : List Env) (s : Shared) (H : Hp) (E : XK), Room k (A.deeper (envOfC x (defScope st) s.heap.objs.size f cdv)) →
      QSs (cxOf (L2.CX P w) P w K mg base N x (defScope st) f cdv A outer s H E) (fun cls d _ H => E cls d H) (defBody st) body) : FnM P w K mg base (k + 1) x ps (runDef N.length body) := by
  obtain ⟨fd, F⟩ := F
  exact ⟨f, fd, gm, F.kp, FunD.bindsN F bi, fnOk_mk F S hb⟩
section
variable {X : Cx} {W : WX} {e : Expr} {es : List Expr} {t : MA} {pos : Pos} {x : Str} {p : Pos} {k : Nat} {ps : List Str} {m : List D → HP → R D}
theorem qf (F : FnM X.prog X.w X.K X.mg X.base k x ps m) (tk : Takes X W) (hr : Room k X.A) (hg : Gl X x) (hnp : ps.length = (e :: es).length) (ha : QA X W (e :: es) t) (ht : ∀ s h ds h', t s h = .ok ds h' → ds.length = (e :: es).length) (hdb : (x == ("__debug__" : Str)) = false := by decide) (he : starEach (e :: es) X.env = (false, eval e X.env) :: starEach es X.env := by rfl) (hpl : (backTo pos (starEach es X.env)).any (·.1) = false := by rfl) :
    QE X W (.Call (.Name x p) (e :: es) [] pos) (mCall m t) := by
  obtain ⟨f, fd, gm, kp, b, F⟩ := F.ex
  exact qe_call F hnp tk hr hg gm kp b ha ht hdb he hpl
theorem qf0 (F : FnM X.prog X.w X.K X.mg X.base k x [] m) (tk : Takes X W) (hr : Room k X.A) (hg : Gl X x) (hdb : (x == ("__debug__" : Str)) = false := by decide) : QE X W (.Call (.Name x p) [] [] pos) (mCall m mNil) := by
  obtain ⟨f, fd, gm, kp, b, F⟩ := F.ex
  exact qe_call0 F tk hr hg gm kp b hdb
end

/-! ### constants of the module -/
def constN : Nat → PySem.W.Frag → D → Value → Bool
  | 0, _, _, _ => false
  | n + 1, K, d, u => match d, u with
    | .non, .none => true
    | .bl b, .bool c => b == c
    | .int i, .int j _ => decide (i = j)
    | .str x, .str y _ => decide (x = y)
    | .stp xs, .ref a => (match K.lookup a with
      | some ⟨.type c, none, .seq its _, _⟩ => decide (c = "tuple") && (decide (its.size ≤ sizeLine) && allN (constN n K) xs its.toList)
      | _ => false)
    | _, _ => false
where allN (f : D → Value → Bool) : List D → List Value → Bool
  | [], [] => true
  | d :: ds, u :: us => f d u && allN f ds us
  | _, _ => false
def ConstV (K : PySem.W.Frag) (mg : Str → Option Value) (d : D) (u : Value) : Prop := ∃ v, RelV v u ∧ ∀ r H, RelD K mg r H d v
theorem allN_ok {K : PySem.W.Frag} {mg : Str → Option Value} {f : D → Value → Bool} (hf : ∀ d u, f d u = true → ConstV K mg d u) : ∀ {ds : List D} {us : List Value}, constN.allN f ds us = true → ∃ vs, Vals vs us ∧ ∀ r H, RelDs K mg r H ds vs
  | [], [], _ => ⟨[], .nil, fun _ _ => .nil⟩
  | [], _ :: _, h => by cases h
  | _ :: _, [], h => by cases h
  | d :: ds, u :: us, h => by
    obtain ⟨h1, h2⟩ := Bool.and_eq_true_iff.mp (show (f d u && constN.allN f ds us) = true from h)
    obtain ⟨v, a, b⟩ := hf d u h1
    obtain ⟨vs, c, e⟩ := allN_ok hf h2
    exact ⟨v :: vs, .cons a c, fun r H => .cons (b r H) (e r H)⟩
theorem constN_ok {K : PySem.W.Frag} {mg : Str → Option Value} : ∀ (n : Nat) (d : D) (u : Value), constN n K d u = true → ConstV K mg d u
  | 0, _, _, h => by cases h
  | n + 1, d, u, h => by
    unfold constN at h
    split at h
    · exact ⟨.non, rfl, fun _ _ => .non⟩
    · rename_i b c; rw [beq_iff_eq.mp h]; exact ⟨.bl c, rfl, fun _ _ => .bl c⟩
    · rename_i i j t; rw [of_decide_eq_true h]; exact ⟨.int j, ⟨t, rfl⟩, fun _ _ => .int j⟩
    · rename_i x y t; rw [of_decide_eq_true h]; exact ⟨.str y, ⟨t, rfl⟩, fun _ _ => .str y⟩
    · rename_i xs a
      split at h
      · rename_i c its n' sl hk
        obtain ⟨h1, h2⟩ := Bool.and_eq_true_iff.mp h
        obtain ⟨h3, h4⟩ := Bool.and_eq_true_iff.mp h2
        obtain ⟨vs, q1, q2⟩ := allN_ok (mg := mg) (fun d u => constN_ok n d u) h4
        refine ⟨.ref a, rfl, fun r H => .stp (.inr ⟨_, its, n', hk, congrArg Value.type (of_decide_eq_true h1), rfl, of_decide_eq_true h3, q1, rfl⟩) (q2 r H)⟩
      · cases h
    · cases h
def constB (K : PySem.W.Frag) (q : Str × D) : Bool := match PySem.W.nsIn K mainGlobals q.1 with
  | some (some u) => constN 8 K q.2 u
  | _ => false
def GConst (K : PySem.W.Frag) (mg : Str → Option Value) (x : Str) (d : D) : Prop := ∃ u, mg x = some u ∧ ConstV K mg d u
theorem constB_ok {K : PySem.W.Frag} {mg : Str → Option Value} {h : Heap} {q : Str × D} (X : K.In h) (G : h.Ns mainGlobals mg) (c : constB K q = true) : GConst K mg q.1 q.2 := by
  unfold constB at c
  cases e : PySem.W.nsIn K mainGlobals q.1 with
  | none => rw [e] at c; cases c
  | some o =>
    rw [e] at c
    cases o with
    | none => cases c
    | some u => exact ⟨u, PySem.W.mg_of X G e, constN_ok 8 _ _ c⟩
theorem qe_gc {X : Cx} {W : WX} {x : Str} {d : D} {pos : Pos} (hg : Gl X x) (g : GConst X.K X.mg x d) (hd : (x == ("__debug__" : Str)) = false := by decide) : QE X W (.Name x pos) (mC d) := by
  obtain ⟨u, hm, v, rv, q⟩ := g
  exact qe_const (pe_glob (v := v) hg hm rv hd) q
end PM
namespace PM
open PySem PySem.Spec PyProof.Rows L2
def negG : D → HP → Option (D × HP) := fun x h => match x with
  | .int i => some (.int (-i), h)
  | _ => none
theorem un_negG {X : Cx} : UnR X (unaryOp .USub) (rV1 X.K X.mg negG) := by
  intro pins s σ H x v Q I rx ⟨r, a, h, rp, ra, p⟩
  unfold negG at p
  cases ra with
  | int i => exact un_neg pins s σ H _ v Q I rx ⟨i, rfl, p.here rp (.int _)⟩
  | _ => exact p.elim
def iaddG : D → D → HP → Option (D × HP) := fun x y h => match x, y with
  | .int i, .int j => some (.int (i + j), h)
  | .str a, .str b => if a.length + b.length ≤ 1000000 then some (.str (a ++ b), h) else none
  | _, _ => none
theorem iop_iaddG {X : Cx} : OpR X (inplaceOp .Add) (rV2 X.K X.mg iaddG) := iop_addG

/-! the law's end -/
theorem cx_no {P : Program} {w : World} (H : Hp) (s : Shared) (e : Value) (s' : Shared) (h : L2.CX P w [] H s (fun _ _ _ => False) e s') : False := by
  obtain ⟨_, _, _, _, _, _, _, _, _, _, _, _, z⟩ := h
  exact z
theorem rep_script {K : PySem.W.Frag} {mg : Str → Option Value} {H : Hp} {a : Addr} {ns : List Int} (q : (∃ ob, H a = some (.frz ob (.lst (ns.map V.int)))) ∨ SqL K (fun _ => none) a (ns.map V.int)) : Rep K mg [a] [.rdl (ns.map D.int)] H := by
  refine ⟨rfl, fun i o b e1 e2 => ?_, fun i j b oi oj e1 e2 m1 m2 e3 e4 => ?_⟩
  · cases i with
    | zero =>
      cases e1; cases e2
      exact ⟨_, q, RelDs.ints ns⟩
    | succ i => cases e1
  · cases i with
    | zero => cases e1; cases m1
    | succ i => cases e1
/-- the law's promise from its plain program -/
theorem law_end {K : PySem.W.Frag} {mg : Str → Option Value} {m : List D → HP → R D} {H : Hp} {a : Addr} {ns : List Int} (hm : ∃ h', m [.ref 0] [.rdl (ns.map D.int)] = .ok (.bl true) h') (hO : Only H) (hS : SqL K H a (ns.map V.int)) :
    spM K mg 1 m [.ref a] H (fun v _ => v = .bl true) fun _ _ _ => False := by
  obtain ⟨h', e⟩ := hm
  refine ⟨[a], [.ref 0], [.rdl (ns.map D.int)], rep_script ?_, .cons (.ref rfl) .nil, rfl, ?_⟩
  · rcases hS with (q | ⟨ob, q⟩) | q
    · rcases hO a with z | ⟨ob, xs, z⟩
      · rw [q] at z; cases z
      · rw [q] at z; cases z
    · exact .inl ⟨ob, q⟩
    · exact .inr (.inr q)
  · rw [e]
    intro r' v H' _ _ _ rl
    cases rl
    rfl
/-- the end of a law's row: K, the law's def by its plain program, what that gives -/
theorem walk_pm {l : PySem.W.OpenLaw} {k : Nat} {q : Program} {loose : List Str} {XP : (Str → Option Value) → Heap → Prop} {YP : World → Heap → Prop} {d : DefRec} {m : List D → HP → R D}
    (hn : l.most = some 63) (hdf : d.params.defaults = []) (hr : Room k callerA)
    (F : ∀ (w : World) (mg : Str → Option Value) (fa : Addr) (h : Heap), YP w h → h.Ns mainGlobals mg → mg d.name = some (.ref fa) →
      ∃ (K : PySem.W.Frag) (fd : FuncData), K.In h ∧ (∀ (s : Shared) (u : Value), BindsTo s fd ⟨[u], []⟩ [("script", u)]) ∧ ∀ base : Heap, FnOk l.prog w K mg base (L2.CX l.prog w) k fa fd ["script"] (spM K mg 1 m))
    (main : ∀ ns : List Int, ns.length ≤ 63 → (∀ z ∈ ns, Builtin.Int.intBits z ≤ 1048576) → ∃ h', m [.ref 0] [.rdl (ns.map D.int)] = .ok (.bl true) h') :
    PySem.W.WalkO q loose XP YP l.row.toRowW d [] (fun f vs => PySem.call f vs) := by
  refine Att.attach_callB hn hdf fun w s0 s1 mg mb fa o pm cd doc a vs ns G Y ho hd hcd hmg hobj hints hlen hbits hg => ?_
  obtain ⟨K, fd, KX, hb, hF⟩ := F w mg fa _ Y G.T.g hmg
  refine law_call KX G.T.g G.T.b G.T.builtins G.T.nolimit hg hobj hints (line_of (by omega)) hr (fun base _ _ => hF base) hb (fun H hO hS => ?_) fun H e s' => cx_no H s1 e s'
  exact law_end (main ns hlen hbits) hO hS
end PM
end
section
set_option Elab.async false
set_option linter.all false
set_option maxRecDepth 100000
set_option maxHeartbeats 2000000
/-! super().__init__(e) as the first statement of an own error's __init__ -/
namespace SX
open PySem PySem.Spec PyProof.Rows L2 NdefX
section
variable {X : Cx} {pins : List (Addr × Obj)} {σ : L2.St} {H : Hp} {s : Shared} {a C D u : Addr}
theorem mw_call {A : Around} {E : Value → Shared → Prop} {us : List Value} {Q : Value → Shared → Prop} (T : OexC X.K C) (I : Inv X pins σ H s) (e : H a = some (exo a C none)) (hu : s.heap.get? u = some (PySem.W.kxs_mw "ValueError.__init__" a)) (hl : us.length ≤ sizeLine) (h : ∀ s', Inv X pins σ H s' → Q .none s') :
    wpAny (model X.prog X.w) A (call (.ref u) us) Q E s := by
  obtain ⟨nm, q, N, bs, bm, sn, sub, ab, col, dd, k0, k1, k2, k3, k5, hC, hbm⟩ := T.cls
  obtain ⟨t1, ho⟩ := exo_at I.hok e
  have hC' := I.kIn _ _ hC
  obtain ⟨hp, g, d, t, os⟩ := s
  have fin : ∀ h', (∀ b o, b ≠ a → hp.get? b = some o → h'.get? b = some o) → h'.get? a = some (PySem.W.excRec (.ref C) hp.objs.size none .none .none (.bool false)) → Q .none ⟨h', g, d, t, os⟩ := fun h' k hx => by
    have J := I.write (t' := t) (x := a) (e := a) (o := exo a C none) (by rw [e]; exact True.intro) (.inl rfl) k ⟨_, hx⟩ (exo_ok hx)
    have eu : upd H a (exo a C none) = H := by
      funext b
      by_cases hb : b = a
      · rw [hb, upd_same, e]
      · rw [upd_ne hb]
    rw [eu] at J
    exact h _ J
  refine wpAny_call (codeAny_of_tree ?_)
  show wpAny _ A.in1 (callAny (.ref u) ⟨us, []⟩) _ _ _
  simp only [callAny]
  refine wpAny_bind (wpAny_load hu ?_)
  simp only [PySem.W.kxs_mw, show (Value.type "method-wrapper" == Value.type "method" || Value.type "method-wrapper" == Value.type "builtin_function_or_method" || Value.type "method-wrapper" == Value.type "method-wrapper") = true by decide, if_true]
  refine PySem.W.KFB.if_so (by decide) ?_
  refine wpAny_bind (PySem.W.check_bound_init F.excBase_ValueError.toExcCallFacts hC' ho rfl ?_)
  refine wpAny_bind (wpAny_pure (wpAny_pure ?_))
  refine ⟨plainId_quiet F.excBase_ValueError.init.plain _, codeAny_builtin F.excBase_ValueError.initEntry ?_⟩
  exact PySem.W.exc_init_tree (cls := .ref C) (t0 := t1) (dv := none) (c2 := .none) (c3 := .none) (b4 := .bool false) ho hl fun h' k e' _ => fin h' k e'
/-- a name of the body, loaded -/
theorem ldN {E : Value → Shared → Prop} {i : Nat} {x : Str} {v : V} {uv : Value} {Q : Value → Shared → Prop} (I : Inv X pins σ H s) (hN : X.N[i]? = some x) (hσ : σ[i]? = some (some v)) (hv : Vis X.env.scope x) (hr : ∀ u, RelV v u → u = uv) (hq : Q uv s) (hn : (x == ("__classdict__" : Str)) = false := by decide)
    (hcell : X.env.kindOf x = some .local ∨ X.env.kindOf x = some .free) : wpAny (model X.prog X.w) X.A (loadName X.env x) Q E s := by
  obtain ⟨m, hns, hl⟩ := I.loc
  obtain ⟨u, ru, lk⟩ := hl i x v hN hσ hv
  have eu := hr u ru
  subst eu
  rcases lk with ⟨k, e⟩ | ⟨k, c, hc, hce⟩
  · exact wpAny_loadName_local I.ok.kind k hns e hq
  · have kf : X.env.kindOf x = some .free := by
      rcases hcell with h | h
      · rcases k with k | k <;> rw [h] at k <;> cases k
      · exact h
    exact wpAny_loadName_free I.ok.kind kf hc hce hq hn
theorem at_super {body : List Stmt} {e : Expr} {p0 p1 p2 p3 p4 : Pos} {ta : TA} {f c : Addr} {of oc : Obj} {fd : FuncData} {ar : Arg} {vc : Array Value} {file : Str} {tf : Tok} {cdD : ClassData} {i j : Nat} {Qn : Hp → Prop}
    (I : Inv X [] σ H s) (hfu : X.env.func = some f) (hf : X.K.lookup f = some of) (hfd : of.data = .func fd) (hp : (fd.params.posonlyargs ++ fd.params.args).head? = some ar) (hco : X.env.code = .ref c) (hcc : X.K.lookup c = some oc) (hoc : oc.data = .fields vc)
    (hvs : vc[2]? = some (.str file tf)) (hfile : ((X.prog.main.file : Str) == file) = true) (htop : (X.prog.main.scope.names.lookup ("super" : Str)).isSome = false) (hks : X.env.kindOf "super" = some .globalImplicit) (hkc : X.env.kindOf "__class__" = some .free) (hka : X.env.kindOf ar.arg = some .local)
    (hms : X.mg "super" = none) (hj : X.N[j]? = some "__class__") (hσj : σ[j]? = some (some (.ref D))) (hi : X.N[i]? = some ar.arg) (hσi : σ[i]? = some (some (.ref a))) (han : (ar.arg == ("__classdict__" : Str)) = false)
    (hD : PySem.W.clsIn X.K D = some cdD) (T : OexC X.K C) (hsub : PySem.W.mroIn X.K C (.ref D) = some true) (hsup : PySem.W.ks_superIn X.K C D "__init__" = some (some (.builtin "ValueError.__init__"))) (hB : PySem.W.subIn X.K (.ref C) (.type "ValueError") = some true)
    (hop : PySem.W.nsIn X.K cStatics "thirdparty.any" = some none) (ea : H a = some (exo a C none)) (ha : PA X [e] ta) (h : ta σ H (fun vs H1 => vs.length ≤ 1000 ∧ H1 a = some (exo a C none) ∧ Qn H1))
    (hpl : swapsWith (.Call (.Attribute (.Call (.Name "super" p0) [] [] p1) "__init__" p2) [e] [] p3) none p4.line X.env = pure false := by rfl)
    (he : starEach [e] X.env = (false, eval e X.env) :: [] := by rfl) (pl : Sem Bool)
    (hev : eval (.Call (.Attribute (.Call (.Name "super" p0) [] [] p1) "__init__" p2) [e] [] p3) X.env = (do
      let ov ← attributeBase (.Call (.Name "super" p0) [] [] p1) "__init__" X.env (eval (.Call (.Name "super" p0) [] [] p1) X.env)
      standAt p2.atName
      let (f, first) ← holding [ov] (getMethod ov "__init__" pl)
      callWith p3 f first (backTo p3 (starEach [e] X.env)) [])) :
    PySem.wpAt (model X.prog X.w) X.A (.func body X.env) (exec (.Expr (.Call (.Attribute (.Call (.Name "super" p0) [] [] p1) "__init__" p2) [e] [] p3) p4) X.env) (fun fl s' => fl = .next ∧ ∃ H1, Inv X [] σ H1 s' ∧ Qn H1) X.xe s := by
  refine ks_wpAt_Expr_any ?_ I.quiet hpl
  refine ks_wpAt_MethodCall (pl := pl) ?_ hev
  refine ks_wpAt_super_base hks hkc (by decide) hfu (I.kIn _ _ hf) hfd hp hco (I.kIn _ _ hcc) hoc hvs hfile htop ?_
  obtain ⟨mb, h1, h2⟩ := I.mod.blt
  refine PySem.W.ks_loadName_global I.ok.kind hks (Calls.loadGlobal_builtin (by rw [I.ok.glob]; exact I.mod.glob.keeps I.bk) hms (by rw [I.ok.blt]; exact h1.keeps I.bk) ((h2 "super" (by decide)).trans (by decide +kernel : bootBuiltins "super" = some (.type "super"))) ⟨rfl, ?_⟩)
  refine ldN (uv := .ref D) I hj hσj (.inr (.inr hkc)) (fun u r => r) ?_ (by decide) (.inr hkc)
  refine ldN (uv := .ref a) I hi hσi (.inl hka) (fun u r => r) ?_ han (.inl hka)
  obtain ⟨t1, ho⟩ := exo_at I.hok ea
  have KX := I.kIn
  obtain ⟨hh, g, d, t, os⟩ := s
  obtain ⟨oD, hD1, hD2⟩ : ∃ oD, hh.get? D = some oD ∧ oD.data = .cls cdD := by
    unfold PySem.W.clsIn at hD
    split at hD
    · rename_i c' d' cd' sl ho'
      cases hD
      exact ⟨_, KX _ _ ho', rfl⟩
    · cases hD
  refine ks_wpAny_isType_cls hD1 hD2 ⟨rfl, ?_⟩
  refine ks_wpAny_call_super hD1 hD2 ho rfl (fun c e => nomatch e) (PySem.W.looks_mroIn KX hsub) (fun h' e' k => ?_)
  have I2 : Inv X [] σ H ⟨h', g, d, t, os⟩ := I.kept (t' := t) k
  have KX2 := I2.kIn
  have IA : PySem.W.InstAt h' a { cls := .ref C, dict := none, data := .fields #[.ref t1, .none, .none, .none, .bool false, .none] } C none := ⟨k _ _ ho, rfl, rfl, trivial⟩
  cases hc : PySem.W.clsIn X.K C with
  | none => unfold PySem.W.ks_superIn at hsup; rw [hc] at hsup; cases hsup
  | some cd =>
    unfold PySem.W.ks_superIn at hsup
    rw [hc] at hsup
    refine PySem.W.kxs_getMethod PySem.W.kxs_ValueError e' (PySem.W.looks_opaque KX2 hop) (l₀ := cd.mro) (fun A Q E s k q => wpAny_bind ((PySem.W.looks_clsIn KX2 hc) A _ E s k (wpAny_pure q))) rfl KX2 hsup (IA.type.andThen (PySem.W.looks_subIn KX2 hB)) (PySem.W.ks_ne KX2 IA hc) (by decide) ?_
    have k3 : ∀ b o, h'.get? b = some o → (h'.push (PySem.W.kxs_mw "ValueError.__init__" a)).get? b = some o := fun b o e => Heap.get?_push_of_some _ e
    have I3 : Inv X [] σ H ⟨h'.push (PySem.W.kxs_mw "ValueError.__init__" a), g, d, t + 1, os⟩ := I2.kept (t' := t + 1) k3
    have hu : (h'.push (PySem.W.kxs_mw "ValueError.__init__" a)).get? h'.objs.size = some (PySem.W.kxs_mw "ValueError.__init__" a) := Heap.get?_push_at rfl rfl
    have I4 : Inv X [(h'.objs.size, PySem.W.kxs_mw "ValueError.__init__" a)] σ H ⟨h'.push (PySem.W.kxs_mw "ValueError.__init__" a), g, d, t + 1, os⟩ := I3.pins_of fun p hp => by
      rw [List.mem_singleton.mp hp]
      exact ⟨hu, I2.hok.fresh (Nat.le_refl _), Nat.ne_of_gt I2.lt, I2.nofs (Nat.le_refl _), fun v z => nomatch z⟩
    show wpAny _ _ (callWith p3 (.ref h'.objs.size) [] (backTo p3 (starEach [e] X.env)) []) _ _ _
    rw [he]
    refine PySem.W.kxs_callWith (i := "ValueError.__init__") (x := a) (by rfl) (Calls.evalArgs_plain ?_)
    have hrun := ha.run p3 _ _ _ _ _ I4 h
    rw [he] at hrun
    refine thn hrun fun us s5 ⟨vs5, H5, I5, r5, hlen, ea5, q5⟩ => ?_
    have hpin := I5.pin _ (List.mem_append_right _ List.mem_cons_self)
    refine ⟨hpin.1, ?_⟩
    have hlen' : us.length ≤ sizeLine := by have := r5.length; rw [sizeLine_eq]; omega
    have I6 : Inv X [] σ H5 s5 := I5.pins_of (pins' := []) (fun p hp => nomatch hp)
    exact mw_call T I6 ea5 hpin.1 hlen' fun s' J => ⟨rfl, H5, J, q5⟩
end
section
variable {P : Program} {w : World} {K : PySem.W.Frag} {mg : Str → Option Value} {base : Heap} {k : Nat} {f cc D : Addr} {F : NF} {N ps : List Str}
abbrev stSuper (e : Expr) (p0 p1 p2 p3 p4 : Pos) : Stmt := .Expr (.Call (.Attribute (.Call (.Name "super" p0) [] [] p1) "__init__" p2) [e] [] p3) p4
/-- what an __init__ that begins so does -/
def spS (K : PySem.W.Frag) (N ps : List Str) (D : Addr) (ta : TA) (t : TS) : Sp := fun vs H Q E => vs.length = ps.length ∧ ∃ a C ws, vs = V.ref a :: ws ∧ OexC K C ∧ PySem.W.mroIn K C (.ref D) = some true ∧ PySem.W.ks_superIn K C D "__init__" = some (some (.builtin "ValueError.__init__")) ∧ PySem.W.subIn K (.ref C) (.type "ValueError") = some true ∧
  H a = some (exo a C none) ∧ ta (startF N vs [some (.ref D)]) H (fun us H1 => us.length ≤ 1000 ∧ H1 a = some (exo a C none) ∧ t { nx := fun _ H' => Q .non H', rt := Q } (startF N vs [some (.ref D)]) H1)
theorem fnOk_super {e : Expr} {rest : List Stmt} {p0 p1 p2 p3 p4 : Pos} {ta : TA} {t : TS} {od : Option Addr} {osl : Array (Option Value)} {doc pm ctv : Value} {ar : Arg} {oc : Obj} {vc : Array Value} {file : Str} {tf : Tok} {cdD : ClassData} {ocl : Value} {odc : Option Addr} {oslc : Array (Option Value)}
    (lk : K.lookup f = some ⟨.type "function", od, .func (F.fd doc pm ctv), osl⟩) (hcd : PySem.W.codeIn K (.ref F.c) F.qual = true) (S : NScope N ps ["__class__"] F.scope) (hbody : F.body = stSuper e p0 p1 p2 p3 p4 :: rest) (hcl : F.cl = [(("__class__" : Str), cc)])
    (lc : K.lookup cc = some ⟨ocl, odc, .cell (some (.ref D)), oslc⟩) (hp : (F.params.posonlyargs ++ F.params.args).head? = some ar) (hcc : K.lookup F.c = some oc) (hoc : oc.data = .fields vc)
    (hvs : vc[2]? = some (.str file tf)) (hfile : ((P.main.file : Str) == file) = true) (htop : (P.main.scope.names.lookup ("super" : Str)).isSome = false) (hks : F.scope.names.lookup ("super" : Str) = some .globalImplicit)
    (hms : mg "super" = none) (hps : ps[0]? = some ar.arg) (han : (ar.arg == ("__classdict__" : Str)) = false)
    (hD : PySem.W.clsIn K D = some cdD) (hop : PySem.W.nsIn K cStatics "thirdparty.any" = some none)
    (hA : ∀ (A : Around) (outer : List Env) (s : Shared) (H : Hp) (E : XK), Room k (A.deeper (envF F f s.heap.objs.size)) → PA (ncx (L2.CX P w) P w K mg base N F f A outer s H E) [e] ta)
    (hR : ∀ (A : Around) (outer : List Env) (s : Shared) (H : Hp) (E : XK), Room k (A.deeper (envF F f s.heap.objs.size)) → PSs (ncx (L2.CX P w) P w K mg base N F f A outer s H E) rest t)
    (hpl : ∀ env, swapsWith (.Call (.Attribute (.Call (.Name "super" p0) [] [] p1) "__init__" p2) [e] [] p3) none p4.line env = pure false)
    (he : ∀ env, starEach [e] env = (false, eval e env) :: []) (pl : Sem Bool)
    (hev : ∀ env, eval (.Call (.Attribute (.Call (.Name "super" p0) [] [] p1) "__init__" p2) [e] [] p3) env = (do
      let ov ← attributeBase (.Call (.Name "super" p0) [] [] p1) "__init__" env (eval (.Call (.Name "super" p0) [] [] p1) env)
      standAt p2.atName
      let (f, first) ← holding [ov] (getMethod ov "__init__" pl)
      callWith p3 f first (backTo p3 (starEach [e] env)) [])) :
    FnOk P w K mg base (L2.CX P w) (k + 1) f (F.fd doc pm ctv) ps (spS K N ps D ta t) := by
  refine ⟨fun vs H Q E h => h.1, fun A outer s H args us vs Q E hr e0 hb r hsp => ?_⟩
  obtain ⟨hl, a, C, ws, ev, T, hsub, hsup, hB, ea, hta⟩ := hsp
  have KX : K.In s.heap := e0.mod.kin.keeps fun b o e => (e0.bs b o e).1
  have lim : s.heap.NoLimit := e0.mod.nolimit.keeps fun b o e => (e0.bs b o e).1
  have hcb := (e0.bs _ _ (e0.mod.kin _ _ lc))
  have CA : CellsAt F.cl ["__class__"] [some (.ref D)] s.heap H := by
    rw [hcl]
    have look : ∀ y c, List.lookup y [(("__class__" : Str), cc)] = some c → y = "__class__" ∧ c = cc := fun y c h => by
      rw [List.lookup_cons] at h
      by_cases q : y = "__class__"
      · subst q
        simp at h
        exact ⟨rfl, h.symm⟩
      · have q' : (y == ("__class__" : Str)) = false := by simpa using q
        rw [q'] at h
        cases h
    refine ⟨rfl, fun y c h => ?_, fun x y c h1 h2 => ?_, fun i y h => ?_⟩
    · obtain ⟨_, rfl⟩ := look y c h
      exact ⟨hcb.2, _, _, hcb.1, rfl⟩
    · rw [(look x c h1).1, (look y c h2).1]
    · cases i with
      | zero =>
        cases h
        refine ⟨cc, by simp [List.lookup], fun v hv => ?_⟩
        cases hv
        exact ⟨.ref D, rfl, _, hcb.1, rfl⟩
      | succ i => simp at h
  have hloc : ∀ y ∈ ps.zip us, F.scope.names.lookup y.1 = some .local := fun ⟨n, v⟩ hy => S.par n (List.of_mem_zip hy).1
  refine ks_codeAny_call_defAt hr.depth (KX _ _ lk) rfl lim (PySem.W.codeRec_of KX hcd) (body := F.body) rfl hb S.nocell hloc (fun h₁ hns kp => ?_) S.co S.gen S.kind
  have I : Inv (ncx (L2.CX P w) P w K mg base N F f A outer s H E) [] (startF N vs [some (.ref D)]) H { s with heap := h₁, toks := s.toks + (ps.zip us).length } := inv_startN S hr.hd e0 hl r CA hns kp
  have ndp : ps.length + 1 ≤ N.length := by
    have q := congrArg List.length S.pre
    rw [List.length_take, List.length_append] at q
    simp at q
    omega
  have hNi : N[0]? = some ar.arg := by
    have h1 : (N.take (ps.length + 1))[0]? = (ps ++ [("__class__" : Str)])[0]? := congrArg (fun l : List Str => l[0]?) S.pre
    have hp0 : 0 < ps.length := (List.getElem?_eq_some_iff.mp hps).1
    rw [List.getElem?_take_of_lt (by omega), List.getElem?_append_left hp0, hps] at h1
    exact h1
  have hNj : N[ps.length]? = some "__class__" := by
    have h1 : (N.take (ps.length + 1))[ps.length]? = (ps ++ [("__class__" : Str)])[ps.length]? := congrArg (fun l : List Str => l[ps.length]?) S.pre
    rw [List.getElem?_take_of_lt (by omega), List.getElem?_append_right (Nat.le_refl _)] at h1
    simpa using h1
  have hσi : (startF N vs [some (.ref D)])[0]? = some (some (.ref a)) := by rw [ev]; rfl
  have hσj : (startF N vs [some (V.ref D)])[ps.length]? = some (some (.ref D)) := by
    unfold startF
    rw [List.getElem?_append_right (by rw [List.length_map, hl]; exact Nat.le_refl _), List.length_map, hl]
    simp
  have hka : F.scope.names.lookup ar.arg = some .local := S.par _ (List.mem_of_getElem? hps)
  have hkc : F.scope.names.lookup ("__class__" : Str) = some .free := S.frk _ (by simp)
  show PySem.wpAt (model P w) (A.deeper (envF F f s.heap.objs.size)) (.func F.body (envF F f s.heap.objs.size)) (execs F.body (envF F f s.heap.objs.size)) _ _ _
  have hsb := @at_super (ncx (L2.CX P w) P w K mg base N F f A outer s H E) (startF N vs [some (.ref D)]) H { s with heap := h₁, toks := s.toks + (ps.zip us).length } a C D F.body e p0 p1 p2 p3 p4 ta f F.c _ oc (F.fd doc pm ctv) ar vc file tf cdD 0 ps.length
    (t { nx := fun _ H' => Q .non H', rt := Q } (startF N vs [some (.ref D)])) I rfl lk rfl hp rfl hcc hoc hvs hfile htop hks hkc hka hms hNj hσj hNi hσi han hD T hsub hsup hB hop ea (hA A outer s H E (hr.deeper _)) hta (hpl _) (he _) pl (hev _)
  have hR' := hR A outer s H E (hr.deeper _)
  have gl : PySem.wpAt (model P w) (A.deeper (envF F f s.heap.objs.size)) (.func F.body (envF F f s.heap.objs.size)) (execs (stSuper e p0 p1 p2 p3 p4 :: rest) (envF F f s.heap.objs.size))
      (SP (ncx (L2.CX P w) P w K mg base N F f A outer s H E) [] { nx := fun _ H' => Q .non H', rt := Q }) (ncx (L2.CX P w) P w K mg base N F f A outer s H E).xe { s with heap := h₁, toks := s.toks + (ps.zip us).length } := by
    refine ks_wpAt_execs_cons ?_
    refine ks_wpAt_mono hsb (fun fl s' hs => ?_) (fun e s' z => z)
    obtain ⟨rfl, H1, J, q⟩ := hs
    exact PySem.wpAt_of_wpAny (hR'.run [] s' _ H1 _ J q)
  rw [hbody] at gl ⊢
  refine ks_wpAt_mono gl (fun fl s' hs => ?_) fun e s' z => z
  have fin : ∀ {σ' : L2.St} {H' : Hp} {v : V} {u : Value}, Inv (ncx (L2.CX P w) P w K mg base N F f A outer s H E) [] σ' H' s' → L2.RelV v u → Q v H' → CE outer P w H s Q u s' :=
    fun {σ' H' v u} J rv q => ⟨v, H', J.os, J.bare, J.base, J.hok, rv, q⟩
  cases fl with
  | ret u =>
    obtain ⟨v, σ', H', J, rv, q⟩ := hs
    exact fin J rv q
  | next =>
    obtain ⟨σ', H', J, q⟩ := hs
    exact fin (v := V.non) (u := Value.none) J rfl q
  | brk =>
    obtain ⟨_, _, _, q⟩ := hs
    exact False.elim q
  | cont =>
    obtain ⟨_, _, _, q⟩ := hs
    exact False.elim q
end
end SX
end
section
set_option Elab.async false
set_option linter.all false
set_option maxRecDepth 100000
set_option maxHeartbeats 2000000
/-! own errors raised -/
namespace PM
open PySem PySem.Spec PyProof.Rows L2 SX NdefX
def FlatP (fs : List (Str × D)) (vs : List (Str × V)) : Prop := Paired (fun p q => p.1 = q.1 ∧ PM.flatD p.2 = some q.2) fs vs
theorem flat_of {K : PySem.W.Frag} {mg : Str → Option Value} {r : List Addr} {H : Hp} {d : D} {v : V} (e : PM.flatD d = some v) : RelD K mg r H d v := by
  cases d <;> first | (cases e; constructor) | cases e
theorem flats_of {K : PySem.W.Frag} {mg : Str → Option Value} {r : List Addr} {H : Hp} {ds : List D} {vs us : List V} (e : PM.flatDs ds = some vs) (rl : RelDs K mg r H ds us) : us = vs := (flats_rel rl e).1
theorem flatP_of {K : PySem.W.Frag} {mg : Str → Option Value} {r : List Addr} {H : Hp} : ∀ {fs : List (Str × D)} {vs : List (Str × V)}, FlatP fs vs → RelP K mg r H fs vs
  | _, _, .nil => .nil
  | _, _, .cons h t => .cons ⟨h.1, flat_of h.2⟩ (flatP_of t)
/-- what an own error's __init__ makes of plain values -/
def InitOk (C : Addr) (sp : Sp) (g : List D → Option (List (Str × D))) : Prop := ∀ ds fs, g ds = some fs → ∃ vs vfs, PM.flatDs ds = some vs ∧ vs.length ≤ 1000 ∧ FlatP fs vfs ∧
  ∀ a H (Q2 : VK), H a = some (exo a C none) → (∀ d H2, H d = none → d ≠ a → H2 a = some (exo a C (some d)) → H2 d = some (exd d vfs) → (∀ b, b ≠ a → b ≠ d → H2 b = H b) → Q2 .non H2) → sp (.ref a :: vs) H Q2 (fun _ _ _ => False)
def kRaise (c : Str) (g : List D → Option (List (Str × D))) (s : SD) (ds : List D) (h : HP) : RS := match g ds with
  | some fs => .exc s c fs h
  | none => .bad
def mRaise (c : Str) (g : List D → Option (List (Str × D))) (t : MA) : MS := fun s h => (t s h).toS s (kRaise c g s)
section
variable {X : Cx} {W : WX} {C : Addr} {c : Str} {sp : Sp} {g : List D → Option (List (Str × D))} {e : Expr} {t : MA} {pos : Pos}
theorem qs_raise (hc : X.calm = true) (tk : Takes X W) (hm : X.mg c = some (.ref C)) (io : InitOk C sp g) (he : PMk X e (tMkO C sp [] (tM X.K X.mg rDs W t))) : QS X W (.Raise (some e) none pos) (mRaise c g t) :=
  (ps_raise (pos := pos) hc tk he).imp fun D0 σ H q => by
    unfold tMkO
    obtain ⟨r0, s0, h0, rp0, rs0, p0⟩ := tS.ofE (rr := rDs) (m := t) (k := kRaise c g) q
    refine ⟨r0, s0, h0, rp0, rs0, p0.imp fun vs H1 ⟨r1, s, ds, h1, rp, rs, rl, p⟩ => ?_⟩
    unfold kRaise at p
    cases hg : g ds with
    | none => rw [hg] at p; exact p.elim
    | some fs =>
      rw [hg] at p
      obtain ⟨vs', vfs, ev, hl, fp, run⟩ := io ds fs hg
      have := flats_of ev rl
      subst this
      refine ⟨hl, fun a ha => ?_⟩
      rw [List.append_nil]
      refine run a _ _ upd_same fun d H2 hd hda e1 e2 e3 => ⟨rfl, d, vfs, e1, e2, by rw [upd_ne hda] at hd; exact hd, ?_⟩
      have hd1 : H1 d = none := by rw [upd_ne hda] at hd; exact hd
      have eq : upd (del H2 a) d (.xd vfs) = upd H1 d (.xd vfs) := by
        funext b
        by_cases hb : b = d
        · rw [hb, upd_same, upd_same]
        · rw [upd_ne hb, upd_ne hb]
          by_cases hba : b = a
          · rw [hba, del_same, ha]
          · rw [del_ne hba, e3 b hba hb, upd_ne hba]
      rw [eq]
      exact p r1 σ (.ref C) (some d) _ (Ext.refl r1) (Keep.new hd1) (rp.fresh hd1) (rs.mono (Ext.refl r1) (Keep.new hd1)) ⟨C, hm, rfl, d, vfs, rfl, upd_same, flatP_of fp⟩
end
theorem int_len {i : Int} (h0 : 0 ≤ i) (h1 : i < 1000000000000) : (Str.ofString (toString i)).length ≤ 12 := by
  obtain ⟨n, rfl⟩ := Int.eq_ofNat_of_zero_le h0
  rw [TL.len_tl, TL.tl_num]
  exact TL.numL_len (by omega) (by omega)
theorem int_log {i : Int} (h0 : 0 ≤ i) (h1 : i < 1000000000000) : i.natAbs.log2 < 1920 := by
  have : i.natAbs < 2 ^ 1920 := Nat.lt_of_lt_of_le (show i.natAbs < 2 ^ 40 by omega) (Nat.pow_le_pow_right (by omega) (by omega))
  by_cases hz : i.natAbs = 0
  · rw [hz]; decide
  · exact (Nat.log2_lt hz).mpr this
def g2 (f1 f2 : Str) : List D → Option (List (Str × D)) := fun ds => match ds with
  | [.int i, .int j] => if (0 ≤ i ∧ i < 1000000000000) ∧ 0 ≤ j ∧ j < 1000000000000 then some [(f2, .int j), (f1, .int i)] else none
  | _ => none
def ta2 (s1 s2 : Str) : TA := tCons (fun σ H Q => tJs [tC (.str s1), tFmt (tVar 1), tC (.str s2), tFmt (tVar 2)] Str.empty σ H fun out H1 => Q (.str out) H1) tNil
def t2 (K : PySem.W.Frag) (f1 f2 : Str) : TS := tSeq (tOst K f1 (tVar 0) (tVar 1)) (tOst K f2 (tVar 0) (tVar 2))
structure ErrC (K : PySem.W.Frag) (C D f : Addr) : Prop where
  oex : OexC K C
  ini : PySem.W.findIn K (.ref C) "__init__" = some (some (.ref f))
  typ : PySem.W.typeIn K (.ref f) = some (.type "function")
  sub : PySem.W.mroIn K C (.ref D) = some true
  sup : PySem.W.ks_superIn K C D "__init__" = some (some (.builtin "ValueError.__init__"))
  ve : PySem.W.subIn K (.ref C) (.type "ValueError") = some true
theorem emp_len : (Str.empty : Str).length = 0 := rfl
theorem app_len (a b : Str) : (a ++ b).length = a.length + b.length := by
  rw [TL.len_tl, TL.tl_append, List.length_append, ← TL.len_tl, ← TL.len_tl]
theorem init2 {K : PySem.W.Frag} {C D f : Addr} {f1 f2 s1 s2 : Str} (E : ErrC K C D f) (n1 : PySem.W.findIn K (.ref C) f1 = some none) (n2 : PySem.W.findIn K (.ref C) f2 = some none) (h1 : s1.length ≤ 1000) (h2 : s2.length ≤ 1000) :
    InitOk C (spS K ["self", f1, f2, "__class__"] ["self", f1, f2] D (ta2 s1 s2) (t2 K f1 f2)) (g2 f1 f2) := by
  intro ds fs hg
  unfold g2 at hg
  split at hg
  · rename_i i j
    split at hg
    · rename_i hb
      cases hg
      obtain ⟨⟨i0, i1⟩, j0, j1⟩ := hb
      refine ⟨[.int i, .int j], [(f2, .int j), (f1, .int i)], rfl, by show 2 ≤ 1000; omega, .cons ⟨rfl, rfl⟩ (.cons ⟨rfl, rfl⟩ .nil), fun a H Q2 ha hQ => ?_⟩
      have li := int_len i0 i1
      have lj := int_len j0 j1
      refine ⟨rfl, a, C, _, rfl, E.oex, E.sub, E.sup, E.ve, ha, ?_⟩
      refine ⟨s1, rfl, by rw [sizeLine_eq, app_len, emp_len]; omega, ?_⟩
      refine ⟨.int i, rfl, .inr ⟨i, rfl, int_log i0 i1, ?_⟩⟩
      refine ⟨_, rfl, by rw [sizeLine_eq, app_len, app_len, emp_len]; omega, ?_⟩
      refine ⟨s2, rfl, by rw [sizeLine_eq, app_len, app_len, app_len, emp_len]; omega, ?_⟩
      refine ⟨.int j, rfl, .inr ⟨j, rfl, int_log j0 j1, ?_⟩⟩
      refine ⟨_, rfl, by rw [sizeLine_eq, app_len, app_len, app_len, app_len, emp_len]; omega, ?_⟩
      refine ⟨by show 1 ≤ 1000; omega, ha, ?_⟩
      refine ⟨.int i, rfl, .ref a, rfl, a, C, rfl, E.oex, n1, .inl ⟨ha, fun dx hdx hda => ?_⟩⟩
      have hne : (dx : Addr) ≠ a := hda
      refine ⟨.int j, rfl, .ref a, rfl, a, C, rfl, E.oex, n2, .inr ⟨dx, [(f1, .int i)], upd_same, by rw [upd_ne hne, upd_same], by show 1 ≤ 900; omega, ?_⟩⟩
      refine hQ dx _ hdx hne ?_ upd_same fun b hb hbd => ?_
      · rw [upd_ne (Ne.symm hne), upd_same]
      · rw [upd_ne hbd, upd_ne hb, upd_ne hbd]
    · cases hg
  · cases hg
end PM
end
section
set_option Elab.async false
set_option linter.all false
set_option maxRecDepth 100000
set_option maxHeartbeats 2000000
/-! try with several clauses, each with a name -/
namespace PM
open PySem PySem.Spec PyProof.Rows L2
abbrev Suit := Addr → Value → Option Addr → TS
def unD (i : Nat) (D : Ends) : Ends := ⟨fun t G => D.nx (t.set i none) G, D.rt, fun t G => D.bk (t.set i none) G, fun t G => D.ct (t.set i none) G⟩
def wClauses (K : PySem.W.Frag) (Wo : WX) (D : Ends) : List (Value × Nat × Suit) → WX
  | [] => Wo
  | p :: l => fun cls d σ H => ∃ y, PySem.W.exmOne K cls p.1 = some y ∧ (y = true → ∀ a, H a = none → p.2.2 a cls d (unD p.2.1 D) (σ.set p.2.1 (some (.ref a))) H) ∧ (y = false → wClauses K Wo D l cls d σ H)
inductive Clauses (X : Cx) : List ExceptHandler → List (Value × Nat × Suit) → Prop
  | nil : Clauses X [] []
  | cons {x n : Str} {c : Value} {i : Nat} {su : Suit} {b : Stmt} {bs : List Stmt} {p1 p2 : Pos} {hs : List ExceptHandler} {l : List (Value × Nat × Suit)} (hi : X.N[i]? = some n) (hk : X.env.kindOf n = some .local) (hc : Names X x c)
      (hb : ∀ (a : Addr) (o : Obj) (cls : Value) (d : Option Addr) (pn : List (Addr × Obj)), Zc cls d o → (∃ vs, o.data = .fields vs) → PSs (X.suite a ((a, o) :: pn)) (b :: bs) (su a cls d)) (r : Clauses X hs l) :
      Clauses X (.ExceptHandler (some (.Name x p1)) (some n) (b :: bs) p2 :: hs) ((c, i, su) :: l)
section
variable {X : Cx} {Wo : WX} {D : Ends} {pins : List (Addr × Obj)}
/-- an exception of the body that has landed -/
structure Land (X : Cx) (pins : List (Addr × Obj)) (a B : _) (t : L2.St) (G : Hp) (cls : Value) (d : Option Addr) (s0 s1 : Shared) (g : Heap) : Prop where
  inv : Inv X pins t G s0
  nb : ∀ b o, s0.heap.get? b = some o → b ∉ frs X.stack → Heap.get? B b = some o
  up : s0.heap.UpToSlots g
  fl : HandSPX.FlyingZ B (X.env :: X.outer) a (Zc cls d) g
  na : G a = none
  os : s1.os = s0.os
  ag : AllBare s1.gens
  nl : a ≠ X.env.locals
  nf : a ∉ X.fs
theorem Land.suite {a : Addr} {B : Heap} {t : L2.St} {G : Hp} {cls : Value} {d : Option Addr} {s0 s1 : Shared} {g : Heap} (L : Land X pins a B t G cls d s0 s1 g) :
    ∃ o vs, g.get? a = some o ∧ Zc cls d o ∧ o.data = .fields vs ∧ Inv (X.suite a ((a, o) :: (X.pn ++ pins))) [] t G { s1 with heap := g } ∧ Inv X pins t G { s1 with heap := g } := by
  have J := L.inv.landed (s' := { s1 with heap := g }) L.nb L.fl.1 L.up L.os L.ag
  obtain ⟨o, vs, h1, h2, h3⟩ := L.fl.there
  exact ⟨o, vs, h1, h2, h3, J.suite h1 h3 L.na L.nl L.nf, J⟩
theorem clauses_run {hds : List ExceptHandler} {l : List (Value × Nat × Suit)} {a : Addr} {B : Heap} {t : L2.St} {G : Hp} {cls : Value} {d : Option Addr} {s0 s1 : Shared} (hc : Clauses X hds l) (hs : X.stack = X.env :: X.outer) (hf : X.env.frame = some X.env.locals) (hN : X.N.Nodup) (tk : Takes X Wo) (ok : X.Ok) :
    ∀ g, Land X pins a B t G cls d s0 s1 g → wClauses X.K Wo D l cls d t G → wpAny (model X.prog X.w) X.A (handleBy (.ref a) X.env hds) (SP X pins D) X.xe { s1 with heap := g } := by
  induction hc with
  | nil =>
    intro g L hw
    refine wpAny_handleBy_nil ?_
    have up' : ∀ g', (B.StaysIn g' ∧ True) → True := fun _ _ => True.intro
    obtain ⟨z1, z2, z3, o0, fs0, T0, oT0, z4, z5, z6, z7, z8, z9⟩ := id L.fl
    unfold PySem.passOn
    refine wpAny_bind (wpAny_field z5 z7 z8 ?_)
    rw [if_neg (by simp : ¬ ((Value.ref T0 == Value.none) = true))]
    have away : wpAny (model X.prog X.w) X.A (setFlight (.ref a) X.env.frame) (fun _ r => wpAny (model X.prog X.w) X.A (throw (.ref a) : Sem Flow) (SP X pins D) X.xe r) X.xe { s1 with heap := g } := by
      rw [hf]
      exact HandSPX.setFlight_upZ L.fl fun g2 held u2 => wpAny_throw (tk _ _ ⟨a, B, s0, pins, t, G, cls, d, rfl, L.inv, L.nb, L.up.trans u2, .inr (.inr (hs ▸ held)), L.na, L.os, L.ag, hw⟩)
    first
      | exact wpAny_bind away
      | exact wpAny_bind (wpAny_pure (wpAny_bind away))
  | @cons x n c i su b bs p1 p2 hs2 l2 hi hk hnm hb rr ih =>
    intro g L hw
    obtain ⟨y, hy, yes, no⟩ := hw
    obtain ⟨o, fs, q1, q2, q3, S, J⟩ := L.suite
    refine wpAny_handleBy_cons (codeAny_handlers_test ?_) (fun q => nomatch q)
    have isC : PySem.W.Looks (model X.prog X.w) g (typeOf (.ref a)) cls := fun A' Q' E' r k q => wpAny_typeOf_ref (k _ _ q1) (q2.1.symm ▸ q)
    have asked := PySem.W.exm_one (M := model X.prog X.w) J.kIn isC hy
    have name : ∀ {Q : Value → Shared → Prop} {E : Value → Shared → Prop}, Q c { s1 with heap := g } → wpAny (model X.prog X.w) (X.A.mark (some (.ref a))) (eval (.Name x p1) X.env) Q E { s1 with heap := g } := by
      intro Q E q
      obtain ⟨g1, g2, g3 | ⟨g3, g4, g5⟩⟩ := hnm
      · exact ld_glob S g1 g3 q g2
      · exact ld_blt S g1 g3 g4 q g5 g2
    refine name (asked.here ?_)
    cases y with
    | false => exact ih g L (no rfl)
    | true =>
      refine codeAny_handlers_suite_as (HandSPX.lands_againZ L.fl fun g4 fl4 u4 => ?_)
      have L4 : Land X pins a B t G cls d s0 s1 g4 := ⟨L.inv, L.nb, L.up.trans u4, fl4, L.na, L.os, L.ag, L.nl, L.nf⟩
      obtain ⟨o4, fs4, r1, r2, r3, S4, _⟩ := L4.suite
      refine store_ok (X := X.suite a ((a, o4) :: (X.pn ++ pins))) (v := .ref a) S4 hN hi (.inl hk) rfl (fun s5 S5 => ?_) (.inr hk)
      have run := (hb a o4 cls d (X.pn ++ pins) r2 ⟨_, r3⟩).run [] s5 _ G _ S5 (yes rfl a L.na)
      refine wpAny_mono run (fun fl s6 hsp => ?_) (fun _ _ z => z.elim)
      have away : ∀ {t6 : L2.St} {G6 : Hp} {Q : Shared → Prop}, Inv (X.suite a ((a, o4) :: (X.pn ++ pins))) [] t6 G6 s6 → (∀ s7, Inv X pins (t6.set i none) G6 s7 → Q s7) → wpAny (model X.prog X.w) X.A (do bindName X.env n .none; unbindBehindTheSuite X.env n p2) (fun _ s7 => Q s7) X.xe s6 :=
        fun S6 hq => gone_ok (S6.unsuite ok) hN hi hk hq
      match fl, hsp with
      | .next, ⟨t6, G6, S6, e6⟩ => exact away S6 fun s7 J7 => ⟨_, _, J7, e6⟩
      | .brk, ⟨t6, G6, S6, e6⟩ => exact away S6 fun s7 J7 => ⟨_, _, J7, e6⟩
      | .cont, ⟨t6, G6, S6, e6⟩ => exact away S6 fun s7 J7 => ⟨_, _, J7, e6⟩
      | .ret u, ⟨v6, t6, G6, S6, k6, e6⟩ => exact away S6 fun s7 J7 => ⟨_, _, _, J7, k6, e6⟩
theorem ps_try {body : List Stmt} {h0 : ExceptHandler} {hds : List ExceptHandler} {l : List (Value × Nat × Suit)} {pos : Pos} {tb : WX → TS} (hs : X.stack = X.env :: X.outer) (hf : X.env.frame = some X.env.locals) (hN : X.N.Nodup) (tk : Takes X Wo)
    (hb : ∀ (W : WX) (pn : List (Addr × Obj)) (xe : Value → Shared → Prop), Takes (X.tr pn xe) W → PassesOwn (model X.prog X.w) X.A X.env xe → PSs (X.tr pn xe) body (tb W)) (hh : Clauses X (h0 :: hds) l) :
    PS X (.Try body (h0 :: hds) [] [] pos) (fun D t G => tb (wClauses X.K Wo D l) D t G) := by
  refine ⟨fun pins s t G D I h => wpAny_Try_except ?_⟩
  have ok := I.ok
  have fr : X.A.frames = some (X.env :: X.outer) := ok.frames.trans (congrArg _ hs)
  have thrown : ∀ u s1, XE (X.tr (X.pn ++ pins) fun e r => wpAny (model X.prog X.w) X.A (noteFrame e X.env) (fun _ r2 => wpAny (model X.prog X.w) X.A (setFlight e none) (fun _ r3 => wpAny (model X.prog X.w) X.A (handleBy e X.env (h0 :: hds)) (SP X pins D) X.xe r3) X.xe r2) X.xe r) (wClauses X.K Wo D l) u s1 →
      wpAny (model X.prog X.w) X.A (noteFrame u X.env) (fun _ r2 => wpAny (model X.prog X.w) X.A (setFlight u none) (fun _ r3 => wpAny (model X.prog X.w) X.A (handleBy u X.env (h0 :: hds)) (SP X pins D) X.xe r3) X.xe r2) X.xe s1 := by
    rintro u s1 ⟨a, B, sI, pins', t', G', cls, d, rfl, J', nb, up, sky, na, os, ag, hw⟩
    have J := J'.ofTry ok
    have sky2 : Sky B (X.env :: X.outer) a (Zc cls d) X.env.locals s1.heap := hs ▸ sky
    refine Sky.land Zc.steady fr hf sky2 fun g fl u3 => ?_
    obtain ⟨o, fs, q1, q2, q3⟩ := fl.there
    have nfr : a ∉ frs (X.env :: X.outer) := fun hm => by
      obtain ⟨_, o2, e2, h2⟩ := fl.2.2.1.mem hm
      rw [q1] at e2
      cases e2
      exact h2 _ q3
    have nl : a ≠ X.env.locals := fun z => nfr (List.mem_filterMap.mpr ⟨X.env, List.mem_cons_self, hf.trans (congrArg some z.symm)⟩)
    have nf : a ∉ X.fs := fun hm => by
      obtain ⟨e1, e2, e3⟩ := List.mem_filterMap.mp hm
      exact nfr (List.mem_filterMap.mpr ⟨e1, .tail _ e2, e3⟩)
    exact clauses_run hh hs hf hN tk ok g ⟨J, nb, up.trans u3, fl, na, os, ag, nl, nf⟩ hw
  refine wpAny_mono ((hb (wClauses X.K Wo D l) (X.pn ++ pins) _ thrown PassesOwn.looking).run [] s t G D (I.toTry _) h) (fun fl s1 hsp => ?_) (fun _ _ z => z)
  match fl, hsp with
  | .next, ⟨t1, G1, J1, q⟩ => exact wpAny_execs_nil ⟨t1, G1, J1.ofTry ok, q⟩
  | .brk, ⟨t1, G1, J1, q⟩ => exact ⟨t1, G1, J1.ofTry ok, q⟩
  | .cont, ⟨t1, G1, J1, q⟩ => exact ⟨t1, G1, J1.ofTry ok, q⟩
  | .ret u, ⟨v, t1, G1, J1, k, q⟩ => exact ⟨v, t1, G1, J1.ofTry ok, k, q⟩
end
end PM
end
section
set_option Elab.async false
set_option linter.all false
set_option maxRecDepth 100000
set_option maxHeartbeats 2000000
/-! what an except suite returns: plain values from the error's class and fields -/
namespace PM
open PySem PySem.Spec PyProof.Rows L2
abbrev MF := Str → List (Str × D) → HP → Option D
abbrev MFs := Str → List (Str × D) → HP → Option (List D)
structure ErrI (K : PySem.W.Frag) (C : Addr) : Prop where
  xf : XfC K C
  cl : (PySem.W.clsIn K C).isSome = true
  cc : PySem.W.findIn K (.ref C) "__class__" = some (some (.builtin "object.__class__"))
  sp : PySem.W.specialIn K (.builtin "object.__class__") "__get__" = some (some (.builtin "getset_descriptor.__get__"))
  tk : PySem.W.takesIn K (.builtin "object.__class__") = some true
  mo : PySem.W.mroIn K C (.type "object") = some true
/-- what is known in a suite: the error stands at a, in slot i -/
structure Kn (K : PySem.W.Frag) (mg : Str → Option Value) (ok : Str → Bool) (i : Nat) (a : Addr) (cls : Value) (d : Option Addr) (t : L2.St) (H : Hp) (c : Str) (fs : List (Str × D)) (r : List Addr) (h : HP) : Prop where
  okc : ok c = true
  sl : t[i]? = some (some (.ref a))
  ex : ∃ C dd vs, mg c = some (.ref C) ∧ cls = .ref C ∧ d = some dd ∧ H dd = some (.xd vs) ∧ RelP K mg r H fs vs
  rp : Rep K mg r h H
section
variable {K : PySem.W.Frag} {mg : Str → Option Value} {ok : Str → Bool} {i : Nat} {a : Addr} {cls : Value} {d : Option Addr} {t : L2.St} {H H' : Hp} {c : Str} {fs : List (Str × D)} {r : List Addr} {h : HP}
theorem Kn.keep (n : Kn K mg ok i a cls d t H c fs r h) (k : Keep H H') (rp : Rep K mg r h H') : Kn K mg ok i a cls d t H' c fs r h :=
  ⟨n.okc, n.sl, let ⟨C, dd, vs, e1, e2, e3, e4, e5⟩ := n.ex; ⟨C, dd, vs, e1, e2, e3, k.xd _ _ e4, RelP.mono (Ext.refl r) k e5⟩, rp⟩
end
def tE (K : PySem.W.Frag) (mg : Str → Option Value) (ok : Str → Bool) (i : Nat) (a : Addr) (cls : Value) (d : Option Addr) (m : MF) : TE := fun t H Q => ∃ c fs r h dv, Kn K mg ok i a cls d t H c fs r h ∧ m c fs h = some dv ∧ ∀ v H', Keep H H' → Rep K mg r h H' → RelD K mg r H' dv v → Q v H'
def tEs (K : PySem.W.Frag) (mg : Str → Option Value) (ok : Str → Bool) (i : Nat) (a : Addr) (cls : Value) (d : Option Addr) (m : MFs) : TA := fun t H Q => ∃ c fs r h ds, Kn K mg ok i a cls d t H c fs r h ∧ m c fs h = some ds ∧ ∀ vs H', Keep H H' → Rep K mg r h H' → RelDs K mg r H' ds vs → Q vs H'
def fC (d : D) : MF := fun _ _ _ => some d
def fF (f : Str) : MF := fun _ fs _ => fs.lookup f
def fNil : MFs := fun _ _ _ => some []
def fCons (m : MF) (ms : MFs) : MFs := fun c fs h => (m c fs h).bind fun x => (ms c fs h).map fun xs => x :: xs
def fTup (ms : MFs) : MF := fun c fs h => (ms c fs h).bind fun xs => if xs.length ≤ 1000000 then some (.tup xs) else none
def fAnd (m n : MF) : MF := fun c fs h => match m c fs h with
  | some (.bl true) => n c fs h
  | some (.bl false) => some (.bl false)
  | _ => none
def fOr (m n : MF) : MF := fun c fs h => match m c fs h with
  | some (.bl true) => some (.bl true)
  | some (.bl false) => n c fs h
  | _ => none
def fNot (m : MF) : MF := fun c fs h => match m c fs h with
  | some (.bl b) => some (.bl (!b))
  | _ => none
def anyS (sub : Str → Str → Option Bool) (c : Str) : List Str → Option Bool
  | [] => some false
  | x :: l => match sub c x with
    | some true => some true
    | some false => anyS sub c l
    | none => none
def fIs (sub : Str → Str → Option Bool) (l : List Str) : MF := fun c _ _ => (anyS sub c l).map D.bl
theorem lookup_rel {K : PySem.W.Frag} {mg : Str → Option Value} {r : List Addr} {H : Hp} {f : Str} {dv : D} : ∀ {fs : List (Str × D)} {vs : List (Str × V)}, RelP K mg r H fs vs → fs.lookup f = some dv → ∃ v, vs.lookup f = some v ∧ RelD K mg r H dv v
  | _, _, .nil, e => by cases e
  | (g, x) :: fs, (g', y) :: vs, .cons ⟨e1, e2⟩ t, e => by
    have e1 : g = g' := e1
    subst e1
    by_cases hq : f = g
    · subst hq
      simp [List.lookup] at e ⊢
      rw [← e]
      exact e2
    · have hb : (f == g) = false := by simpa using hq
      simp [List.lookup, hb] at e ⊢
      exact lookup_rel t e
section
variable {X : Cx} {ok : Str → Bool} {i : Nat} {a : Addr} {cls : Value} {d : Option Addr} {o : Obj} {pn : List (Addr × Obj)} {e e2 : Expr} {es rest : List Expr} {m n : MF} {ms : MFs} {pos : Pos}
abbrev SE (X : Cx) (ok : Str → Bool) (i : Nat) (a : Addr) (cls : Value) (d : Option Addr) (o : Obj) (pn : List (Addr × Obj)) (e : Expr) (m : MF) : Prop := PE (X.suite a ((a, o) :: pn)) e (tE X.K X.mg ok i a cls d m)
abbrev SEs (X : Cx) (ok : Str → Bool) (i : Nat) (a : Addr) (cls : Value) (d : Option Addr) (o : Obj) (pn : List (Addr × Obj)) (es : List Expr) (m : MFs) : Prop := PA (X.suite a ((a, o) :: pn)) es (tEs X.K X.mg ok i a cls d m)
theorem se_c {v : V} {dv : D} (h : PE (X.suite a ((a, o) :: pn)) e (tC v)) (hr : ∀ r H, RelD X.K X.mg r H dv v) : SE X ok i a cls d o pn e (fC dv) := h.imp fun t H Q ⟨c, fs, r, h, dv', kn, q1, q⟩ => by
  cases q1
  exact q v H (Keep.refl H) kn.rp (hr r H)
theorem se_str {x : Str} {j} : SE X ok i a cls d o pn (.Constant (.str x) j pos) (fC (.str x)) := se_c pe_str fun _ _ => .str x
theorem se_f {f x : Str} (er : ∀ c C, ok c = true → X.mg c = some (.ref C) → ErrI X.K C ∧ PySem.W.findIn X.K (.ref C) f = some none) (hz : Zc cls d o) (hf : ∃ vs, o.data = .fields vs) {p : Pos} (he : PE (X.suite a ((a, o) :: pn)) (.Name x p) (tVar i))
    (hb : attributeBase (.Name x p) f X.env (eval (.Name x p) X.env) = eval (.Name x p) X.env := by rfl) : SE X ok i a cls d o pn (.Attribute (.Name x p) f pos) (fF f) := by
  refine ⟨fun pins s t H Q I h => ?_⟩
  obtain ⟨c, fs, r, h, dv, kn, q1, q⟩ := h
  obtain ⟨C, dd, vs, k1, k2, k3, k4, k5⟩ := kn.ex
  obtain ⟨E, hno⟩ := er c C kn.okc k1
  obtain ⟨v, l1, l2⟩ := lookup_rel k5 q1
  exact (pe_xf (pos := pos) E.xf hno hz hf he hb).run pins s t H Q I ⟨_, kn.sl, rfl, k2, dd, vs, v, k3, k4, l1, q v H (Keep.refl H) kn.rp l2⟩
theorem ses_nil : SEs X ok i a cls d o pn [] fNil := pa_nil.imp fun t H Q ⟨c, fs, r, h, ds, kn, q1, q⟩ => by
  cases q1
  exact q [] H (Keep.refl H) kn.rp .nil
theorem ses_cons (h1 : SE X ok i a cls d o pn e m) (h2 : SEs X ok i a cls d o pn es ms) (hs : starEach (e :: es) X.env = (false, eval e X.env) :: starEach es X.env := by rfl) : SEs X ok i a cls d o pn (e :: es) (fCons m ms) := (pa_cons h1 h2 hs).imp fun t H Q ⟨c, fs, r, h, ds, kn, q1, q⟩ => by
  unfold fCons at q1
  cases z1 : m c fs h with
  | none => rw [z1] at q1; cases q1
  | some x =>
    cases z2 : ms c fs h with
    | none => rw [z1, z2] at q1; cases q1
    | some xs =>
      rw [z1, z2] at q1
      cases q1
      exact ⟨c, fs, r, h, x, kn, z1, fun v H1 k1 rp1 rl1 => ⟨c, fs, r, h, xs, kn.keep k1 rp1, z2, fun vs H2 k2 rp2 rl2 => q _ H2 (k1.trans k2) rp2 (.cons (rl1.mono (Ext.refl r) k2) rl2)⟩⟩
theorem se_tup {x1} (h1 : SEs X ok i a cls d o pn es ms) : SE X ok i a cls d o pn (.Tuple es x1 pos) (fTup ms) := (pe_tup h1).imp fun t H Q ⟨c, fs, r, h, dv, kn, q1, q⟩ => by
  unfold fTup at q1
  cases z : ms c fs h with
  | none => rw [z] at q1; cases q1
  | some xs =>
    rw [z, Option.bind_some] at q1
    by_cases hl : xs.length ≤ 1000000
    · rw [if_pos hl] at q1
      cases q1
      exact ⟨c, fs, r, h, xs, kn, z, fun vs H1 k1 rp1 rl1 => ⟨line_of (by rw [← rl1.length]; exact hl), fun p hp => q _ _ (k1.trans (Keep.new hp)) (rp1.fresh hp) (.tup upd_same (rl1.mono (Ext.refl r) (Keep.new hp)))⟩⟩
    · rw [if_neg hl] at q1; cases q1
theorem bl_of {r : List Addr} {H : Hp} {b : Bool} {v : V} (h : RelD X.K X.mg r H (.bl b) v) : v = .bl b := by cases h; rfl
theorem se_and (h1 : SE X ok i a cls d o pn e m) (h2 : SE X ok i a cls d o pn (.BoolOp .And (e2 :: rest) pos) n) : SE X ok i a cls d o pn (.BoolOp .And (e :: e2 :: rest) pos) (fAnd m n) := (pe_and h1 h2).imp fun t H Q ⟨c, fs, r, h, dv, kn, q1, q⟩ => by
  unfold fAnd at q1
  split at q1
  · rename_i z
    exact ⟨c, fs, r, h, _, kn, z, fun v H1 k1 rp1 rl1 => ⟨true, bl_of rl1, c, fs, r, h, dv, kn.keep k1 rp1, q1, fun v2 H2 k2 => q v2 H2 (k1.trans k2)⟩⟩
  · rename_i z
    cases q1
    exact ⟨c, fs, r, h, _, kn, z, fun v H1 k1 rp1 rl1 => ⟨false, bl_of rl1, q _ H1 k1 rp1 (.bl false)⟩⟩
  · cases q1
theorem se_or (h1 : SE X ok i a cls d o pn e m) (h2 : SE X ok i a cls d o pn (.BoolOp .Or (e2 :: rest) pos) n) : SE X ok i a cls d o pn (.BoolOp .Or (e :: e2 :: rest) pos) (fOr m n) := (pe_or h1 h2).imp fun t H Q ⟨c, fs, r, h, dv, kn, q1, q⟩ => by
  unfold fOr at q1
  split at q1
  · rename_i z
    cases q1
    exact ⟨c, fs, r, h, _, kn, z, fun v H1 k1 rp1 rl1 => ⟨true, bl_of rl1, q _ H1 k1 rp1 (.bl true)⟩⟩
  · rename_i z
    exact ⟨c, fs, r, h, _, kn, z, fun v H1 k1 rp1 rl1 => ⟨false, bl_of rl1, c, fs, r, h, dv, kn.keep k1 rp1, q1, fun v2 H2 k2 => q v2 H2 (k1.trans k2)⟩⟩
  · cases q1
theorem se_not (h1 : SE X ok i a cls d o pn e m) : SE X ok i a cls d o pn (.UnaryOp .Not e pos) (fNot m) := (pe_not h1).imp fun t H Q ⟨c, fs, r, h, dv, kn, q1, q⟩ => by
  unfold fNot at q1
  split at q1
  · rename_i b z
    cases q1
    exact ⟨c, fs, r, h, _, kn, z, fun v H1 k1 rp1 rl1 => ⟨b, bl_of rl1, q _ H1 k1 rp1 (.bl _)⟩⟩
  · cases q1
theorem se_one {op} (h1 : SE X ok i a cls d o pn e m) : SE X ok i a cls d o pn (.BoolOp op [e] pos) m := pe_one h1
end
end PM
end
section
set_option Elab.async false
set_option linter.all false
set_option maxRecDepth 100000
set_option maxHeartbeats 2000000
/-! isinstance of the error that a suite holds; the plain program of a try -/
namespace PM
open PySem PySem.Spec PyProof.Rows L2
theorem refs_vals : ∀ {cs : List Addr} {us : List Value}, Vals (cs.map V.ref) us → us = cs.map Value.ref
  | [], _, .nil => rfl
  | c :: cs, _, .cons h t => by
    have e := refs_vals t
    subst e
    cases (show _ = Value.ref c from h)
    rfl
def rIsX (K : PySem.W.Frag) (a : Addr) (cls : Value) (d : Option Addr) : List V → Hp → VK → Prop := fun xs H Q => ∃ C dd vs, cls = .ref C ∧ d = some dd ∧ H dd = some (.xd vs) ∧ ErrI K C ∧
  ((∃ (cc : Addr) (b : Bool), xs = [.ref a, .ref cc] ∧ PySem.W.kitOne K (.ref C) (.ref cc) = some b ∧ Q (.bl b) H) ∨ ∃ (tp : Addr) (cs : List Addr) (b : Bool), xs = [.ref a, .ref tp] ∧ H tp = some (.tup (cs.map V.ref)) ∧ PySem.W.kitAny K (.ref C) (cs.map Value.ref) = some b ∧ Q (.bl b) H)
theorem call_isX {X : Cx} {a : Addr} {cls : Value} {d : Option Addr} {o : Obj} {pn : List (Addr × Obj)} (hz : Zc cls d o) (hf : ∃ vs, o.data = .fields vs) : CallR (X.suite a ((a, o) :: pn)) (.builtin "isinstance") (rIsX X.K a cls d) := by
  rintro pins s t H xs us Q I rv ⟨C, dd, vs, rfl, rfl, hd, E, hh⟩
  obtain ⟨hget, _⟩ := I.pin (a, o) (List.mem_append_left _ List.mem_cons_self)
  obtain ⟨ws, hw⟩ := hf
  obtain ⟨mA, hns, _⟩ := (I.hok dd _ hd : ObjOk X.prog X.w H s.heap dd (.xd vs))
  obtain ⟨od, ho, _⟩ := lookIn_ns hns
  have J : PySem.W.InstAt s.heap a o C (some od) := ⟨hget, hz.1, by unfold PySem.W.notCls; rw [hw], hz.2.symm ▸ ho⟩
  have Z := PySem.W.kitx_exc (x := a) (ox := o) (od := some od) E.cl E.xf.ga E.xf.gg E.xf.exC E.cc E.sp E.tk E.mo
  rcases hh with ⟨cc, b, rfl, hk, q⟩ | ⟨tp, cs, b, rfl, htp, hk, q⟩
  · obtain ⟨u1, u2, rfl, r1, r2⟩ := vals2 rv
    cases (show u1 = Value.ref a from r1)
    cases (show u2 = Value.ref cc from r2)
    exact PySem.W.kia_one Z I.kIn J hk (fun z => nomatch z) fun tk => ⟨.bl b, H, I.tok tk, rfl, q⟩
  · obtain ⟨u1, u2, rfl, r1, r2⟩ := vals2 rv
    cases (show u1 = Value.ref a from r1)
    cases (show u2 = Value.ref tp from r2)
    obtain ⟨_, its, rv2, o2, h1, h2, n2, h3⟩ := (I.hok tp _ htp : ObjOk X.prog X.w H s.heap tp (.tup (cs.map V.ref)))
    have e3 := refs_vals rv2
    obtain ⟨oc, od2, dt, sl⟩ := o2
    dsimp only at h2 h3
    subst h2 h3 e3
    exact PySem.W.kia_tup Z I.kIn J h1 hk (fun z => nomatch z) fun tk => ⟨.bl b, H, I.tok tk, rfl, q⟩
/-- the classes among themselves -/
def SubK (K : PySem.W.Frag) (mg : Str → Option Value) (sub : Str → Str → Option Bool) : Prop := ∀ c x C Cx b, sub c x = some b → mg c = some (.ref C) → mg x = some (.ref Cx) → PySem.W.kitOne K (.ref C) (.ref Cx) = some b ∧ PySem.W.exmOne K (.ref C) (.ref Cx) = some b
def tRefs (cs : List Addr) : TA := fun _ H Q => Q (cs.map V.ref) H
section
variable {X : Cx} {ok : Str → Bool} {sub : Str → Str → Option Bool} {i : Nat} {a : Addr} {cls : Value} {d : Option Addr} {o : Obj} {pn : List (Addr × Obj)} {e e2 : Expr} {es rest : List Expr} {m n : MF} {ms : MFs} {pos p p1 p2 : Pos} {x T f : Str}
theorem refs_nil : PA X [] (tRefs []) := pa_nil
theorem refs_cons {C : Addr} {cs : List Addr} (hg : Gl X T) (hm : X.mg T = some (.ref C)) (h2 : PA X es (tRefs cs)) (hd : (T == ("__debug__" : Str)) = false := by decide) (hs : starEach (.Name T p :: es) X.env = (false, eval (.Name T p) X.env) :: starEach es X.env := by rfl) : PA X (.Name T p :: es) (tRefs (C :: cs)) :=
  (pa_cons (pe_glob (v := .ref C) hg hm rfl hd) h2 hs).imp fun t H Q q => q
theorem any_kit {K : PySem.W.Frag} {mg : Str → Option Value} (S : SubK K mg sub) {c : Str} {C : Addr} (hc : mg c = some (.ref C)) : ∀ {l : List Str} {cs : List Addr} {b : Bool}, l.map mg = cs.map (fun a => some (.ref a)) → anyS sub c l = some b → PySem.W.kitAny K (.ref C) (cs.map Value.ref) = some b
  | [], [], b, _, h => h
  | [], _ :: _, _, e, _ => by cases e
  | _ :: _, [], _, e, _ => by cases e
  | x :: l, k :: cs, b, e, h => by
    rw [List.map_cons, List.map_cons] at e
    have e1 := (List.cons.inj e).1
    have e2 := (List.cons.inj e).2
    unfold anyS at h
    rw [List.map_cons]
    unfold PySem.W.kitAny
    cases z : sub c x with
    | none => rw [z] at h; cases h
    | some y =>
      rw [(S c x C k y z hc e1).1]
      rw [z] at h
      cases y with
      | true => exact h
      | false => exact any_kit S hc e2 h
theorem se_is {C : Addr} (S : SubK X.K X.mg sub) (er : ∀ c C, ok c = true → X.mg c = some (.ref C) → ErrI X.K C) (hz : Zc cls d o) (hf : ∃ vs, o.data = .fields vs) (hg : Gl X "isinstance") (hm : X.mg "isinstance" = none) (hv : bootBuiltins "isinstance" = some (.builtin "isinstance"))
    (he : PE (X.suite a ((a, o) :: pn)) (.Name x p1) (tVar i)) (hgT : Gl X T) (hmT : X.mg T = some (.ref C)) (hd : (T == ("__debug__" : Str)) = false := by decide) :
    SE X ok i a cls d o pn (.Call (.Name "isinstance" p) [.Name x p1, .Name T p2] [] pos) (fIs sub [T]) := by
  have hA : PA (X.suite a ((a, o) :: pn)) [.Name x p1, .Name T p2] (tCons (tVar i) (tCons (tC (.ref C)) tNil)) := pa_cons he (pa_cons (pe_glob (v := .ref C) hgT hmT rfl hd) pa_nil)
  refine (pe_callB (X := X.suite a ((a, o) :: pn)) (call_isX hz hf) hg hm hv hA).imp fun t H Q ⟨c, fs, r, h, dv, kn, q1, q⟩ => ?_
  obtain ⟨C0, dd, vs, k1, k2, k3, k4, k5⟩ := kn.ex
  unfold fIs anyS at q1
  refine ⟨_, kn.sl, C0, dd, vs, k2, k3, k4, er c C0 kn.okc k1, .inl ?_⟩
  cases z : sub c T with
  | none => rw [z] at q1; cases q1
  | some y =>
    rw [z] at q1
    refine ⟨C, y, rfl, (S c T C0 C y z k1 hmT).1, ?_⟩
    cases y <;> (cases q1; exact q _ H (Keep.refl H) kn.rp (.bl _))
theorem se_ist {l : List Str} {cs : List Addr} {x1} (S : SubK X.K X.mg sub) (er : ∀ c C, ok c = true → X.mg c = some (.ref C) → ErrI X.K C) (hz : Zc cls d o) (hf : ∃ vs, o.data = .fields vs) (hg : Gl X "isinstance") (hm : X.mg "isinstance" = none) (hv : bootBuiltins "isinstance" = some (.builtin "isinstance"))
    (he : PE (X.suite a ((a, o) :: pn)) (.Name x p1) (tVar i)) (hl : l.map X.mg = cs.map (fun a => some (.ref a))) (hcs : cs.length ≤ 1000) (h2 : PA (X.suite a ((a, o) :: pn)) es (tRefs cs)) :
    SE X ok i a cls d o pn (.Call (.Name "isinstance" p) [.Name x p1, .Tuple es x1 p2] [] pos) (fIs sub l) := by
  have hA : PA (X.suite a ((a, o) :: pn)) [.Name x p1, .Tuple es x1 p2] (tCons (tVar i) (tCons (tTup (tRefs cs)) tNil)) := pa_cons he (pa_cons (pe_tup h2) pa_nil)
  refine (pe_callB (X := X.suite a ((a, o) :: pn)) (call_isX hz hf) hg hm hv hA).imp fun t H Q ⟨c, fs, r, h, dv, kn, q1, q⟩ => ?_
  obtain ⟨C0, dd, vs, k1, k2, k3, k4, k5⟩ := kn.ex
  unfold fIs at q1
  refine ⟨_, kn.sl, by rw [List.length_map]; exact line_of (by omega), fun tp htp => ?_⟩
  have kp : Keep H (upd H tp (.tup (cs.map V.ref))) := Keep.new htp
  refine ⟨C0, dd, vs, k2, k3, kp.xd _ _ k4, er c C0 kn.okc k1, .inr ?_⟩
  cases z : anyS sub c l with
  | none => rw [z] at q1; cases q1
  | some y =>
    rw [z] at q1
    cases q1
    exact ⟨tp, cs, y, rfl, upd_same, any_kit S k1 hl z, q _ _ kp (kn.rp.fresh htp) (.bl _)⟩
end
end PM
end
section
set_option Elab.async false
set_option linter.all false
set_option maxRecDepth 100000
set_option maxHeartbeats 2000000
namespace PM
open PySem PySem.Spec PyProof.Rows L2
def pickC (sub : Str → Str → Option Bool) (ok : Str → Bool) : List (Str × Nat × MF) → Str → List (Str × D) → SD → HP → RS
  | [], c, fs, s, h => .exc s c fs h
  | p :: l, c, fs, s, h => match sub c p.1 with
    | some true => if ok c = true ∧ p.2.1 < s.length then (match p.2.2 c fs h with
      | some d => .rt d h
      | none => .bad) else .bad
    | some false => pickC sub ok l c fs s h
    | none => .bad
def kTry (sub : Str → Str → Option Bool) (ok : Str → Bool) (cl : List (Str × Nat × MF)) : RS → RS
  | .exc s c fs h => pickC sub ok cl c fs s h
  | x => x
def mTry (sub : Str → Str → Option Bool) (ok : Str → Bool) (cl : List (Str × Nat × MF)) (body : MS) : MS := fun s h => kTry sub ok cl (body s h)
/-- the clauses and their plain values -/
inductive CM (K : PySem.W.Frag) (mg : Str → Option Value) (ok : Str → Bool) : List (Value × Nat × Suit) → List (Str × Nat × MF) → Prop
  | nil : CM K mg ok [] []
  | cons {x : Str} {C : Addr} {i : Nat} {m : MF} {l : List (Value × Nat × Suit)} {cl : List (Str × Nat × MF)} (hm : mg x = some (.ref C)) (r : CM K mg ok l cl) : CM K mg ok ((.ref C, i, fun a cls d => tRet (tE K mg ok i a cls d m)) :: l) ((x, i, m) :: cl)
theorem pick_w {K : PySem.W.Frag} {mg : Str → Option Value} {ok : Str → Bool} {sub : Str → Str → Option Bool} {W : WX} {D0 : Ends} {r : List Addr} {H : Hp} (S : SubK K mg sub) {l : List (Value × Nat × Suit)} {cl : List (Str × Nat × MF)} (hc : CM K mg ok l cl) {c : Str} {fs : List (Str × D)} {s : SD} {h : HP}
    (p : PostS K mg W r H D0 (pickC sub ok cl c fs s h)) {r' : List Addr} {t : L2.St} {cls : Value} {dd : Option Addr} {H' : Hp} (e : Ext r r') (k : Keep H H') (rp : Rep K mg r' h H') (rs : RelSt K mg r' H' s t) (xr : XRel K mg r' H' c fs cls dd) : wClauses K W D0 l cls dd t H' := by
  induction hc with
  | nil => exact p r' t cls dd H' e k rp rs xr
  | @cons x C i m l cl hm _ ih =>
    obtain ⟨C0, k1, k2, dv, vs, k3, k4, k5⟩ := id xr
    unfold pickC at p
    dsimp only at p
    cases z : sub c x with
    | none => rw [z] at p; exact p.elim
    | some y =>
      rw [z] at p
      refine ⟨y, by rw [k2]; exact (S c x C0 C y z k1 hm).2, fun hy a ha => ?_, fun hy => ?_⟩
      · subst hy
        dsimp only at p
        by_cases hh : ok c = true ∧ i < s.length
        · rw [if_pos hh] at p
          cases z2 : m c fs h with
          | none => rw [z2] at p; exact p.elim
          | some x2 =>
            rw [z2] at p
            exact ⟨c, fs, r', h, x2, ⟨hh.1, by rw [List.getElem?_set_self (by rw [← rs.len]; exact hh.2)], ⟨C0, dv, vs, k1, k2, k3, k4, k5⟩, rp⟩, z2, fun v H2 q1 q2 q3 => p r' v H2 e (k.trans q1) q2 q3⟩
        · rw [if_neg hh] at p; exact p.elim
      · subst hy
        exact ih p
section
variable {X : Cx} {W : WX} {ok : Str → Bool} {sub : Str → Str → Option Bool} {body : List Stmt} {mb : MS} {h0 : ExceptHandler} {hds : List ExceptHandler} {l : List (Value × Nat × Suit)} {cl : List (Str × Nat × MF)} {pos : Pos}
theorem qs_try (S : SubK X.K X.mg sub) (hs : X.stack = X.env :: X.outer) (hf : X.env.frame = some X.env.locals) (hN : X.N.Nodup) (tk : Takes X W)
    (hb : ∀ (W : WX) (pn : List (Addr × Obj)) (xe : Value → Shared → Prop), Takes (X.tr pn xe) W → PassesOwn (model X.prog X.w) X.A X.env xe → QSs (X.tr pn xe) W body mb) (hh : Clauses X (h0 :: hds) l) (hc : CM X.K X.mg ok l cl) :
    QS X W (.Try body (h0 :: hds) [] [] pos) (mTry sub ok cl mb) :=
  (ps_try (tb := fun W => tS X.K X.mg W mb) hs hf hN tk hb hh).imp fun D0 t H ⟨r, s, h, rp, rs, p⟩ => by
    refine ⟨r, s, h, rp, rs, ?_⟩
    unfold mTry kTry at p
    cases z : mb s h with
    | nx s' h' => rw [z] at p; exact p
    | rt d h' => rw [z] at p; exact p
    | bk s' h' => rw [z] at p; exact p
    | ct s' h' => rw [z] at p; exact p
    | bad => rw [z] at p; exact p
    | exc s' c fs h' =>
      rw [z] at p
      exact fun r' t' cls dd H' e k rp' rs' xr => pick_w S hc p e k rp' rs' xr
theorem cl_nil : Clauses X [] [] := .nil
theorem cl_cons {x n : Str} {C : Addr} {i : Nat} {e : Expr} {m : MF} {p p1 p2 : Pos} (hi : X.N[i]? = some n) (hk : X.env.kindOf n = some .local) (hg : Gl X x) (hm : X.mg x = some (.ref C))
    (hb : ∀ (a : Addr) (o : Obj) (cls : Value) (d : Option Addr) (pn : List (Addr × Obj)), Zc cls d o → (∃ vs, o.data = .fields vs) → SE X ok i a cls d o pn e m) (r : Clauses X hds l) (hd : (x == ("__debug__" : Str)) = false := by decide) :
    Clauses X (.ExceptHandler (some (.Name x p1)) (some n) [.Return (some e) p] p2 :: hds) ((.ref C, i, fun a cls d => tRet (tE X.K X.mg ok i a cls d m)) :: l) :=
  .cons hi hk ⟨hg, hd, .inl hm⟩ (fun a o cls d pn z f => pss_one (ps_ret (hb a o cls d pn z f))) r
end
end PM
end
section
set_option Elab.async false
set_option linter.all false
set_option maxRecDepth 100000
set_option maxHeartbeats 2000000
/-! what the top says of own errors -/
namespace PM
open PySem PySem.Spec PyProof.Rows L2 NdefX
abbrev FiW : Type := Option (Str × Str × Arguments × FuncBody × Scope × Addr × List Str × Addr)
def initA (K : PySem.W.Frag) (p : Str) : Addr := He.ma K (He.ga K p) "__init__"
def fiW (K : PySem.W.Frag) (p : Str) : FiW := match K.lookup (initA K p) with
  | some ⟨_, _, .func fd, _⟩ => some (fd.name, fd.qualname, fd.params, fd.body, fd.scope, fd.globals, fd.closure.map Prod.fst, fd.builtins)
  | _ => none
/-- a part of the heap: what the top reaches, and the interpreter's own marks -/
def frY (n : Nat) (g : Addr → Option Obj) : PySem.W.Frag := He.frT g (cStatics :: He.asD g n)
abbrev AlY : Type := (He.AlT × Bool) × FiW
def obsY (n : Nat) (fa : List He.Fa) (ff : List He.DefD) (ex : PySem.W.Frag → Bool) (p : Str) (g : Addr → Option Obj) : AlY := ((He.obsT fa ff [] (frY n g), ex (frY n g)), fiW (frY n g) p)
/-- the head's facts, and the __init__ of the class p -/
def hookY (n : Nat) (fa : List He.Fa) (ff : List He.DefD) (ex : PySem.W.Frag → Bool) (p : Str) (v : FiW) : PySem.W.Hook where
  α := AlY
  obs := fun s => obsY n fa ff ex p s.heap.get?
  val := fun w => ((He.valT ff [] w, true), v)
  says := fun w h => ∃ K : PySem.W.Frag, K.In h ∧ He.SaysX fa ff [] [] ex w h K ∧ fiW K p = v
  of := fun w h e => ⟨frY n _, He.frT_in, ⟨congrArg (fun z : AlY => z.1.1) e, congrArg (fun z : AlY => z.1.2) e, (fun _ z => nomatch z), (fun _ z => nomatch z), (fun _ z => nomatch z)⟩, congrArg Prod.snd e⟩
  keeps := fun _ _ _ ⟨K, hK, c, e⟩ k => ⟨K, PySem.W.Frag.In.keeps hK k, ⟨c.t, c.more, c.hd, c.out, fun p hp => k _ _ (c.empty p hp)⟩, e⟩
theorem obsY_eq {n : Nat} {fa : List He.Fa} {ff : List He.DefD} {ex : PySem.W.Frag → Bool} {p : Str} {v : FiW} {g : Addr → Option Obj} {s : Shared} (h : ∀ a, g a = s.heap.get? a) : obsY n fa ff ex p g = (hookY n fa ff ex p v).obs s := by
  have e : g = s.heap.get? := funext h
  rw [e]
  rfl
def codeB (K : PySem.W.Frag) (fl : Str) (fd : FuncData) : Bool := match fd.code with
  | .ref c => PySem.W.codeIn K (.ref c) fd.qualname && (match K.lookup c with
    | some ⟨_, _, .fields vs, _⟩ => (match vs[2]? with
      | some (Value.str f _) => decide (f = fl)
      | _ => false)
    | _ => false)
  | _ => false
def cellB (K : PySem.W.Frag) (D : Addr) (fd : FuncData) : Bool := match fd.closure with
  | [(_, cc)] => (match K.lookup cc with
    | some ⟨_, _, .cell (some (.ref D')), _⟩ => decide (D' = D)
    | _ => false)
  | _ => false
def plainB (fd : FuncData) : Bool := (match fd.defaults with
  | .none => true
  | _ => false) && (match fd.kwdefaults with
  | .none => true
  | _ => false) && fd.annotations.isNone
def initB (K : PySem.W.Frag) (fl p : Str) : Bool := match K.lookup (initA K p) with
  | some ⟨.type "function", _, .func fd, _⟩ => plainB fd && cellB K (He.ga K p) fd && codeB K fl fd && (PySem.W.clsIn K (He.ga K p)).isSome && decide (PySem.W.nsIn K cStatics "thirdparty.any" = some none)
  | _ => false
def oexB (K : PySem.W.Frag) (C : Addr) : Bool := match K.lookup C with
  | some ⟨.type "type", _, .cls cd, sl⟩ => (match cd.mro, sl.toList with
    | .ref C' :: bm, [_, _, _, _, some (.builtin n), _] => decide (C' = C) && decide (n = "ValueError.__new__") && !cd.hasDel && cd.hasDict && PySem.HandSPX.refsVE bm
    | _, _ => false)
  | _ => false
theorem oexB_ok {K : PySem.W.Frag} {C : Addr} (q : oexB K C = true) : ∃ nm q N bs bm sn sub ab col dd k0 k1 k2 k3 k5, K.lookup C = some (excClassObj nm q C N bs bm true sn sub ab col dd k0 k1 k2 k3 k5 "ValueError.__new__") ∧ PySem.HandSPX.refsVE bm = true := by
  unfold oexB at q
  split at q
  · rename_i dd cd sl ho
    split at q
    · rename_i C' bm k0 k1 k2 k3 n k5 hm hs
      simp only [Bool.and_eq_true, decide_eq_true_eq, Bool.not_eq_true'] at q
      obtain ⟨⟨⟨⟨q1, q2⟩, q3⟩, q4⟩, q5⟩ := q
      subst q1 q2
      obtain ⟨nm, bs, mro, ns, qn, hd, sn, sub, ab, col, del⟩ := cd
      dsimp only at hm q3 q4
      subst hm q3 q4
      obtain ⟨la⟩ := sl
      have hs : la = [k0, k1, k2, k3, some (.builtin "ValueError.__new__"), k5] := hs
      subst hs
      exact ⟨nm, qn, ns, bs, bm, sn, sub, ab, col, dd, k0, k1, k2, k3, k5, ho, q5⟩
    · cases q
  · cases q
def errB (K : PySem.W.Frag) (p : Str) (fs : List Str) (c : Str) : Bool := oexB K (He.ga K c) && decide (PySem.W.findIn K (.ref (He.ga K c)) "__setattr__" = some (some (.builtin "object.__setattr__"))) && decide (PySem.W.subIn K (.ref (He.ga K c)) (.type "BaseException") = some true) &&
  decide (PySem.W.typeIn K (.ref (He.ga K c)) = some (.type "type")) && PySem.W.keepIn K (.ref (He.ga K c)) && decide (PySem.W.findIn K (.ref (He.ga K c)) "__init__" = some (some (.ref (initA K p)))) && decide (PySem.W.typeIn K (.ref (initA K p)) = some (.type "function")) &&
  decide (PySem.W.mroIn K (He.ga K c) (.ref (He.ga K p)) = some true) && decide (PySem.W.ks_superIn K (He.ga K c) (He.ga K p) "__init__" = some (some (.builtin "ValueError.__init__"))) && decide (PySem.W.subIn K (.ref (He.ga K c)) (.type "ValueError") = some true) &&
  xfB K (He.ga K c) && (PySem.W.clsIn K (He.ga K c)).isSome && decide (PySem.W.findIn K (.ref (He.ga K c)) "__class__" = some (some (.builtin "object.__class__"))) && decide (PySem.W.specialIn K (.builtin "object.__class__") "__get__" = some (some (.builtin "getset_descriptor.__get__"))) &&
  decide (PySem.W.takesIn K (.builtin "object.__class__") = some true) && decide (PySem.W.mroIn K (He.ga K c) (.type "object") = some true) && fs.all fun f => decide (PySem.W.findIn K (.ref (He.ga K c)) f = some none)
structure ErrT (K : PySem.W.Frag) (p : Str) (fs : List Str) (c : Str) : Prop where
  mc : ErrC K (He.ga K c) (He.ga K p) (initA K p)
  is : ErrI K (He.ga K c)
  no : ∀ f ∈ fs, PySem.W.findIn K (.ref (He.ga K c)) f = some none
theorem errB_ok {K : PySem.W.Frag} {p c : Str} {fs : List Str} (h : errB K p fs c = true) : ErrT K p fs c := by
  unfold errB at h
  simp only [Bool.and_eq_true, decide_eq_true_eq, List.all_eq_true] at h
  obtain ⟨⟨⟨⟨⟨⟨⟨⟨⟨⟨⟨⟨⟨⟨⟨⟨h1, h2⟩, h3⟩, h4⟩, h5⟩, h6⟩, h7⟩, h8⟩, h9⟩, h10⟩, h11⟩, h12⟩, h13⟩, h14⟩, h15⟩, h16⟩, h17⟩ := h
  exact ⟨⟨⟨oexB_ok h1, h2, h3, h4, h5⟩, h6, h7, h8, h9, h10⟩, ⟨xfB_ok h11, h12, h13, h14, h15, h16⟩, h17⟩
/-- pairs of classes, and whether the first is of the second -/
def subB (K : PySem.W.Frag) (q : Str × Str × Bool) : Bool := decide (PySem.W.kitOne K (.ref (He.ga K q.1)) (.ref (He.ga K q.2.1)) = some q.2.2) && decide (PySem.W.exmOne K (.ref (He.ga K q.1)) (.ref (He.ga K q.2.1)) = some q.2.2)
def subOf (l : List (Str × Str × Bool)) (c x : Str) : Option Bool := (l.find? fun q => decide (q.1 = c) && decide (q.2.1 = x)).map fun q => q.2.2
theorem subK_of {K : PySem.W.Frag} {mg : Str → Option Value} {l : List (Str × Str × Bool)} (h : l.all (subB K) = true) (hg : ∀ q ∈ l, mg q.1 = some (.ref (He.ga K q.1)) ∧ mg q.2.1 = some (.ref (He.ga K q.2.1))) : SubK K mg (subOf l) := by
  intro c x C Cx b e hC hx
  unfold subOf at e
  cases z : l.find? fun q => decide (q.1 = c) && decide (q.2.1 = x) with
  | none => rw [z] at e; cases e
  | some q =>
    rw [z] at e
    cases e
    have hm := List.mem_of_find?_eq_some z
    have hp := List.find?_some z
    simp only [Bool.and_eq_true, decide_eq_true_eq] at hp
    obtain ⟨hp1, hp2⟩ := hp
    obtain ⟨g1, g2⟩ := hg q hm
    rw [hp1] at g1
    rw [hp2] at g2
    rw [hC] at g1
    rw [hx] at g2
    cases g1
    cases g2
    have hq := List.all_eq_true.mp h q hm
    unfold subB at hq
    simp only [Bool.and_eq_true, decide_eq_true_eq] at hq
    rw [hp1, hp2] at hq
    exact hq
end PM
end
section
set_option Elab.async false
set_option linter.all false
set_option maxRecDepth 100000
set_option maxHeartbeats 2000000
namespace PM
open PySem PySem.Spec PyProof.Rows L2 NdefX SX
theorem init_fn {P : Program} {w : World} {K : PySem.W.Frag} {mg : Str → Option Value} {base : Heap} {k : Nat} {p fl name qual : Str} {params : Arguments} {body rest : List Stmt} {scope : Scope} {N ps : List Str} {e : Expr} {p0 p1 p2 p3 p4 : Pos} {ta : TA} {t : TS} {ar : Arg}
    (e1 : fiW K p = some (name, qual, params, FuncBody.stmts body, scope, mainGlobals, [("__class__" : Str)], builtinsNs)) (e2 : initB K fl p = true) (hfl : ((P.main.file : Str) == fl) = true) (htop : (P.main.scope.names.lookup ("super" : Str)).isSome = false) (hms : mg "super" = none)
    (S : NScope N ps ["__class__"] scope) (hb : body = stSuper e p0 p1 p2 p3 p4 :: rest) (hp : (params.posonlyargs ++ params.args).head? = some ar) (hks : scope.names.lookup ("super" : Str) = some .globalImplicit) (hps : ps[0]? = some ar.arg) (han : (ar.arg == ("__classdict__" : Str)) = false)
    (hbind : ∀ (cl : List (Str × Addr)) (doc pm ctv : Value) (c : Addr) (us : List Value), us.length = ps.length → bindArgs (PySem.W.fnX name qual params body scope cl .none .none doc pm none (.ref c) ctv) ⟨us, []⟩ = pure (ps.zip us))
    (hA : ∀ (cc c : Addr) (A : Around) (outer : List Env) (s : Shared) (H : Hp) (E : XK), PA (ncx (L2.CX P w) P w K mg base N ⟨name, qual, params, body, scope, [("__class__", cc)], c⟩ (initA K p) A outer s H E) [e] ta)
    (hR : ∀ (cc c : Addr) (A : Around) (outer : List Env) (s : Shared) (H : Hp) (E : XK), PSs (ncx (L2.CX P w) P w K mg base N ⟨name, qual, params, body, scope, [("__class__", cc)], c⟩ (initA K p) A outer s H E) rest t)
    (hpl : ∀ env, swapsWith (.Call (.Attribute (.Call (.Name "super" p0) [] [] p1) "__init__" p2) [e] [] p3) none p4.line env = pure false)
    (he : ∀ env, starEach [e] env = (false, eval e env) :: []) (pl : Sem Bool)
    (hev : ∀ env, eval (.Call (.Attribute (.Call (.Name "super" p0) [] [] p1) "__init__" p2) [e] [] p3) env = (do
      let ov ← attributeBase (.Call (.Name "super" p0) [] [] p1) "__init__" env (eval (.Call (.Name "super" p0) [] [] p1) env)
      standAt p2.atName
      let (f, first) ← holding [ov] (getMethod ov "__init__" pl)
      callWith p3 f first (backTo p3 (starEach [e] env)) [])) :
    ∃ fd, FnOk P w K mg base (L2.CX P w) (k + 1) (initA K p) fd ps (spS K N ps (He.ga K p) ta t) ∧ Binds K fd ps [] := by
  unfold fiW at e1
  unfold initB at e2
  cases z : K.lookup (initA K p) with
  | none => rw [z] at e1; cases e1
  | some ob =>
    rw [z] at e1 e2
    split at e2
    · rename_i od fd osl hz
      have hz := Option.some.inj hz
      subst hz
      dsimp only at e1
      obtain ⟨n1, q1, pa1, b1, sc1, g1, cl1, d1, kd1, doc1, pm1, an1, cd1, ct1, bi1⟩ := fd
      simp only [Option.some.injEq, Prod.mk.injEq] at e1
      obtain ⟨rfl, rfl, rfl, rfl, rfl, rfl, hcl, rfl⟩ := e1
      simp only [Bool.and_eq_true, decide_eq_true_eq] at e2
      obtain ⟨⟨⟨⟨i1, i2⟩, i3⟩, i4⟩, i5⟩ := e2
      unfold plainB at i1
      simp only [Bool.and_eq_true] at i1
      obtain ⟨⟨j1, j2⟩, j3⟩ := i1
      have hd : d1 = .none := by cases d1 <;> first | rfl | cases j1
      have hkd : kd1 = .none := by cases kd1 <;> first | rfl | cases j2
      have han1 : an1 = none := by cases an1 <;> first | rfl | cases j3
      subst hd hkd han1
      match cl1, hcl, i2 with
      | [(x, cc)], hcl, i2 =>
        have hx : x = "__class__" := by
          have : [x] = [("__class__" : Str)] := hcl
          exact (List.cons.inj this).1
        subst hx
        unfold cellB at i2
        dsimp only at i2
        cases zc : K.lookup cc with
        | none => rw [zc] at i2; cases i2
        | some oc =>
          rw [zc] at i2
          split at i2
          · rename_i ocl odc D' oslc hq
            have hq := Option.some.inj hq
            subst hq
            have hD' : D' = He.ga K p := of_decide_eq_true i2
            subst hD'
            unfold codeB at i3
            dsimp only at i3
            cases cd1 with
            | ref c =>
              dsimp only at i3
              simp only [Bool.and_eq_true] at i3
              obtain ⟨c1, c2⟩ := i3
              cases zd : K.lookup c with
              | none => rw [zd] at c2; cases c2
              | some occ =>
                rw [zd] at c2
                split at c2
                · rename_i t1 t2 vs t3 hv
                  have hv := Option.some.inj hv
                  subst hv
                  split at c2
                  · rename_i f tf hf
                    have hff : f = fl := of_decide_eq_true c2
                    subst hff
                    obtain ⟨cdD, hcdD⟩ := Option.isSome_iff_exists.mp i4
                    refine ⟨_, fnOk_super (F := ⟨n1, q1, pa1, body, sc1, [("__class__", cc)], c⟩) (cc := cc) (D := He.ga K p) z c1 S hb rfl zc hp zd rfl hf hfl htop hks hms hps han hcdD i5 (fun A outer s H E _ => hA cc c A outer s H E) (fun A outer s H E _ => hR cc c A outer s H E) hpl he pl hev, Binds.all fun us hl => hbind _ _ _ _ _ us hl⟩
                  · cases c2
                · cases c2
            | _ => cases i3
          · cases i2
    · cases e2
theorem ga_ok {X : Cx} {p c : Str} {fs : List Str} (T : ErrT X.K p fs c) : OexC X.K (He.ga X.K c) := T.mc.oex
end PM
end
section
set_option Elab.async false
set_option linter.all false
set_option maxRecDepth 100000
set_option maxHeartbeats 2000000
namespace PM
open PySem PySem.Spec PyProof.Rows L2 NdefX SX
abbrev InitP (P : Program) (w : World) (K : PySem.W.Frag) (mg : Str → Option Value) (base : Heap) (p f1 f2 s1 s2 : Str) : Prop :=
  ∃ fd, FnOk P w K mg base (L2.CX P w) 1 (initA K p) fd ["self", f1, f2] (spS K ["self", f1, f2, "__class__"] ["self", f1, f2] (He.ga K p) (ta2 s1 s2) (t2 K f1 f2)) ∧ Binds K fd ["self", f1, f2] []
theorem qs_raise2 {X : Cx} {W : WX} {c p f1 f2 s1 s2 : Str} {e : Expr} {es : List Expr} {t : MA} {p1 pos pos' : Pos} (T : ErrT X.K p [f1, f2] c) (I : InitP X.prog X.w X.K X.mg X.base p f1 f2 s1 s2) (l1 : s1.length ≤ 1000) (l2 : s2.length ≤ 1000) (hr : Room 2 X.A) (hc : X.calm = true) (tk : Takes X W)
    (hg : Gl X c) (hm : X.mg c = some (.ref (He.ga X.K c))) (ha : QA X W (e :: es) t) (hdb : (c == ("__debug__" : Str)) = false := by decide) (he : starEach (e :: es) X.env = (false, eval e X.env) :: starEach es X.env := by rfl) (hpl : (backTo pos (starEach es X.env)).any (·.1) = false := by rfl) :
    QS X W (.Raise (some (.Call (.Name c p1) (e :: es) [] pos)) none pos') (mRaise c (g2 f1 f2) t) := by
  obtain ⟨fd, F, hb⟩ := I
  exact qs_raise hc tk hm (init2 T.mc (T.no f1 (by simp)) (T.no f2 (by simp)) l1 l2)
    (pmk_oex (ds := []) (dvs := []) T.mc.oex T.mc.ini T.mc.typ F hr hb .nil (passes_call tk fun _ _ _ _ z => z.elim) hg hm ha hdb he hpl)
theorem mp_nil {mg : Str → Option Value} : ([] : List Str).map mg = ([] : List Addr).map (fun a => some (Value.ref a)) := rfl
theorem mp_cons {mg : Str → Option Value} {x : Str} {a : Addr} {l : List Str} {cs : List Addr} (h : mg x = some (.ref a)) (t : l.map mg = cs.map (fun a => some (Value.ref a))) : (x :: l).map mg = (a :: cs).map (fun a => some (Value.ref a)) := by
  rw [List.map_cons, List.map_cons, h, t]
end PM
end
section
set_option Elab.async false
set_option linter.all false
set_option maxRecDepth 100000
set_option maxHeartbeats 2000000
/-! own errors of one value: super().__init__(f"{x}"); self.x = x, x a text -/
namespace PM
open PySem PySem.Spec PyProof.Rows L2 NdefX SX
def g1 (f1 : Str) : List D → Option (List (Str × D)) := fun ds => match ds with
  | [.str u] => if u.length ≤ 1000 then some [(f1, .str u)] else none
  | _ => none
def ta1 : TA := tCons (tFmt (tVar 1)) tNil
def t1 (K : PySem.W.Frag) (f1 : Str) : TS := tOst K f1 (tVar 0) (tVar 1)
theorem init1 {K : PySem.W.Frag} {C D f : Addr} {f1 : Str} (E : ErrC K C D f) (n1 : PySem.W.findIn K (.ref C) f1 = some none) : InitOk C (spS K ["self", f1, "__class__"] ["self", f1] D ta1 (t1 K f1)) (g1 f1) := by
  intro ds fs hg
  unfold g1 at hg
  split at hg
  · rename_i u
    split at hg
    · rename_i hb
      cases hg
      refine ⟨[.str u], [(f1, .str u)], rfl, by show 1 ≤ 1000; omega, .cons ⟨rfl, rfl⟩ .nil, fun a H Q2 ha hQ => ?_⟩
      refine ⟨rfl, a, C, _, rfl, E.oex, E.sub, E.sup, E.ve, ha, ?_⟩
      refine ⟨.str u, rfl, .inl ⟨u, rfl, by rw [sizeLine_eq]; omega, ?_⟩⟩
      refine ⟨by show 1 ≤ 1000; omega, ha, ?_⟩
      refine ⟨.str u, rfl, .ref a, rfl, a, C, rfl, E.oex, n1, .inl ⟨ha, fun dx hdx hda => ?_⟩⟩
      have hne : (dx : Addr) ≠ a := hda
      refine hQ dx _ hdx hne upd_same (by rw [upd_ne hne, upd_same]) fun b hb hbd => ?_
      rw [upd_ne hb, upd_ne hbd]
    · cases hg
  · cases hg
abbrev InitP1 (P : Program) (w : World) (K : PySem.W.Frag) (mg : Str → Option Value) (base : Heap) (p f1 : Str) : Prop :=
  ∃ fd, FnOk P w K mg base (L2.CX P w) 1 (initA K p) fd ["self", f1] (spS K ["self", f1, "__class__"] ["self", f1] (He.ga K p) ta1 (t1 K f1)) ∧ Binds K fd ["self", f1] []
theorem qs_raise1 {X : Cx} {W : WX} {c p f1 : Str} {e : Expr} {es : List Expr} {t : MA} {p1 pos pos' : Pos} (T : ErrT X.K p [f1] c) (I : InitP1 X.prog X.w X.K X.mg X.base p f1) (hr : Room 2 X.A) (hc : X.calm = true) (tk : Takes X W)
    (hg : Gl X c) (hm : X.mg c = some (.ref (He.ga X.K c))) (ha : QA X W (e :: es) t) (hdb : (c == ("__debug__" : Str)) = false := by decide) (he : starEach (e :: es) X.env = (false, eval e X.env) :: starEach es X.env := by rfl) (hpl : (backTo pos (starEach es X.env)).any (·.1) = false := by rfl) :
    QS X W (.Raise (some (.Call (.Name c p1) (e :: es) [] pos)) none pos') (mRaise c (g1 f1) t) := by
  obtain ⟨fd, F, hb⟩ := I
  exact qs_raise hc tk hm (init1 T.mc (T.no f1 (by simp)))
    (pmk_oex (ds := []) (dvs := []) T.mc.oex T.mc.ini T.mc.typ F hr hb .nil (passes_call tk fun _ _ _ _ z => z.elim) hg hm ha hdb he hpl)
end PM
end
section
set_option Elab.async false
set_option linter.all false
set_option maxRecDepth 100000
set_option maxHeartbeats 1000000
namespace PM
open PySem PySem.Spec PyProof.Rows L2

/-! ### lists and tuples alike -/
def seqD (d : D) (h : HP) : Option (List D) := match d with
  | .tup xs => some xs
  | .stp xs => some xs
  | .ref i => match h[i]? with
    | some (.lst xs) => some xs
    | some (.rdl xs) => some xs
    | _ => none
  | _ => none
section
variable {X : Cx} {K : PySem.W.Frag} {mg : Str → Option Value} {r : List Addr} {H : Hp} {h : HP} {W : WX} {a b c e o : Expr} {es rest : List Expr} {ma mb mc : ME} {t : MA} {pos pos' apos cpos : Pos}
/-- a list or a tuple, told apart -/
theorem seqD_ok2 {d : D} {v : V} {xs : List D} (rp : Rep K mg r h H) (rl : RelD K mg r H d v) (e : seqD d h = some xs) :
    ∃ ad vs, v = .ref ad ∧ RelDs K mg r H xs vs ∧ ((SqL K H ad vs ∧ ∃ i, d = .ref i ∧ r[i]? = some ad) ∨ (SqT K H ad vs ∧ (d = .tup xs ∨ d = .stp xs))) := by
  unfold seqD at e
  cases rl with
  | @tup ys ad vs sq rls => cases e; exact ⟨ad, vs, rfl, rls, .inr ⟨SqT.of sq, .inl rfl⟩⟩
  | @stp ys ad vs sq rls => cases e; exact ⟨ad, vs, rfl, rls, .inr ⟨sq.sq, .inr rfl⟩⟩
  | @ref i ad ea =>
    dsimp only at e
    split at e
    · rename_i ys hx
      cases e
      obtain ⟨vs, sq, rls⟩ := list_at rp ea (.inl hx)
      exact ⟨ad, vs, rfl, rls, .inl ⟨sq, i, rfl, ea⟩⟩
    · rename_i ys hx
      cases e
      obtain ⟨vs, sq, rls⟩ := list_at rp ea (.inr hx)
      exact ⟨ad, vs, rfl, rls, .inl ⟨sq, i, rfl, ea⟩⟩
    · cases e
  | _ => cases e
theorem seqD_ok {d : D} {v : V} {xs : List D} (rp : Rep K mg r h H) (rl : RelD K mg r H d v) (e : seqD d h = some xs) : ∃ ad vs, v = .ref ad ∧ (SqT K H ad vs ∨ SqL K H ad vs) ∧ RelDs K mg r H xs vs := by
  obtain ⟨ad, vs, e1, rls, q⟩ := seqD_ok2 rp rl e
  rcases q with ⟨q, _⟩ | ⟨q, _⟩
  · exact ⟨ad, vs, e1, .inr q, rls⟩
  · exact ⟨ad, vs, e1, .inl q, rls⟩
/-- *e in a display -/
def mStar (a : ME) (t : MA) : MA := fun s h => (a s h).bind fun x h => match seqD x h with
  | some xs => (t s h).bind fun ys h => .ok (xs ++ ys) h
  | none => .bad
theorem qa_star {p : Pos} (ha : QE X W e ma) (ht : QA X W es t) (hs : starEach (.Starred e p :: es) X.env = (true, eval e X.env) :: starEach es X.env := by rfl) : QA X W (.Starred e p :: es) (mStar ma t) := (StX.pa_star ha ht hs).imp fun σ H Q q => by
  obtain ⟨r, s, h, rp, rs, p⟩ := tM.bind (rr1 := rD) (m := ma) (k := fun s x h => match seqD x h with
    | some xs => (t s h).bind fun ys h => .ok (xs ++ ys) h
    | none => .bad) q
  refine ⟨r, s, h, rp, rs, p.imp fun x H1 ⟨r1, s1, d, h1, rp1, rs1, rl1, p1⟩ => ?_⟩
  cases e1 : seqD d h1 with
  | none => rw [e1] at p1; exact p1.elim
  | some xs =>
    rw [e1] at p1
    obtain ⟨ad, vs, e2, sq, rls⟩ := seqD_ok rp1 rl1 e1
    refine ⟨ad, vs, e2, sq, r1, s1, h1, rp1, rs1, (Post.bind (rr1 := rDs) p1).imp fun y H2 ⟨r2, ds, h2, e3, k2, rp2, rl2, p2⟩ => ?_⟩
    exact Post.here (rr := rDs) p2 rp2 ((rls.mono e3 k2).append rl2)

/-! ### what is walked: a list, a tuple, a text -/
def itA : D → HP → R (List D × (HP → Prop)) := fun d h => match d with
  | .str x => .ok (x.cps.toList.map fun c => .str ⟨#[c]⟩, fun _ => True) h
  | .tup xs => .ok (xs, fun _ => True) h
  | .stp xs => .ok (xs, fun _ => True) h
  | .ref i => match h[i]? with
    | some (.lst xs) => .ok (xs, fun h => h[i]? = some (.lst xs)) h
    | some (.rdl xs) => .ok (xs, fun h => h[i]? = some (.rdl xs)) h
    | some (.rdd kvs) => .ok (kvs.map fun kv => match kv.1 with | .inl i => .int i | .inr x => .str x, fun h => h[i]? = some (.rdd kvs)) h
    | some (.rdt kvs) => .ok (kvs.map fun kv => .tup (kv.1.map fun k => match k with | .inl i => .int i | .inr x => .str x), fun h => h[i]? = some (.rdt kvs)) h
    | _ => .bad
  | _ => .bad
def iA (a : ME) : MI := fun s h => (a s h).bind itA
def kD (k : Key) : D := match k with
  | .inl i => .int i
  | .inr x => .str x
theorem kD_rel (k : Key) : RelD K mg r H (kD k) (kV k) := by
  cases k with
  | inl i => exact .int i
  | inr x => exact .str x
theorem kDs_rel : ∀ ks : List Key, RelDs K mg r H (ks.map kD) (ks.map kV)
  | [] => .nil
  | k :: ks => .cons (kD_rel k) (kDs_rel ks)
theorem kD_fun : (fun k : Key => (match k with | .inl i => .int i | .inr x => .str x : D)) = kD := by
  funext k; cases k <;> rfl
theorem jrel_tup {r0 : List Addr} {H0 : Hp} {ad : Addr} {xs : List D} {vs : List V} (sq : SqT K H0 ad vs) (rl : RelDs K mg r0 H0 xs vs) : JRel K mg r0 H0 (Itt K ad) xs (fun _ => True) := by
  intro j r H h e k rp g
  have sq1 : SqT K H ad vs := k.sqT sq
  refine ⟨fun d hd => ?_, fun hj => ⟨vs, sq1, by rw [← rl.length]; exact hj⟩⟩
  obtain ⟨v, hv, rv⟩ := rl.get hd
  exact ⟨⟨vs, v, sq1, hv⟩, fun y H' ⟨e1, e2⟩ => by subst e1; have := e2 vs sq1; rw [hv] at this; cases this; exact ⟨Keep.refl _, rp, rv.mono e k⟩⟩
theorem jrel_str {r0 : List Addr} {H0 : Hp} {z : Str} : JRel K mg r0 H0 (Its z) (z.cps.toList.map fun c => .str ⟨#[c]⟩) (fun _ => True) := by
  intro j r H h e k rp g
  refine ⟨fun d hd => ?_, fun hj => ?_⟩
  · rw [List.getElem?_map, Array.getElem?_toList] at hd
    obtain ⟨c, q, rfl⟩ := Option.map_eq_some_iff.mp hd
    exact ⟨(Array.getElem?_eq_some_iff.mp q).1, fun y H' ⟨e1, c', e2, e3⟩ => by
      subst e1; rw [q] at e2; cases e2; subst e3; exact ⟨Keep.refl _, rp, .str _⟩⟩
  · show z.cps.size ≤ j
    simpa using hj
theorem relP_get {κ : Type} : ∀ {ds : List (κ × D)} {vs : List (κ × V)} {i : Nat} {p : κ × D}, RelP K mg r H ds vs → ds[i]? = some p → ∃ q, vs[i]? = some q ∧ q.1 = p.1 ∧ RelD K mg r H p.2 q.2
  | _, _, _, _, .nil, h => by simp at h
  | _, _, 0, _, .cons a _, h => by simp at h; subst h; exact ⟨_, rfl, a.1.symm, a.2⟩
  | _, _, i + 1, _, .cons _ t, h => by
    obtain ⟨q, e, z⟩ := relP_get (i := i) t (by simpa using h)
    exact ⟨q, by simpa using e, z⟩
theorem relP_len {κ : Type} : ∀ {ds : List (κ × D)} {vs : List (κ × V)}, RelP K mg r H ds vs → ds.length = vs.length
  | _, _, .nil => rfl
  | _, _, .cons _ t => congrArg (· + 1) (relP_len t)
theorem jrel_keys {r0 : List Addr} {H0 : Hp} {i : Nat} {ad : Addr} {od : Obj} {kvs : List (Key × D)} {vs : List (Key × V)} (ea : r0[i]? = some ad) (q : H0 ad = some (.frz od (.dK vs))) (rl : RelP K mg r0 H0 kvs vs) :
    JRel K mg r0 H0 (Itk ad od vs) (kvs.map fun kv => kD kv.1) (fun h => h[i]? = some (.rdd kvs)) := by
  intro j r H h e k rp g
  have q1 : H ad = some (.frz od (.dK vs)) := k.frz _ _ _ q
  have ln := relP_len rl
  refine ⟨fun d hd => ?_, fun hj => ⟨q1, by rw [← ln]; simpa using hj⟩⟩
  rw [List.getElem?_map] at hd
  obtain ⟨p, hp, rfl⟩ := Option.map_eq_some_iff.mp hd
  obtain ⟨u, hu, e1, _⟩ := relP_get rl hp
  refine ⟨⟨q1, (List.getElem?_eq_some_iff.mp hu).1⟩, fun y H' ⟨e2, k', v', e3, e4⟩ => ?_⟩
  subst e2
  rw [hu] at e3
  cases e3
  subst e4
  exact ⟨Keep.refl _, rp, by rw [← e1]; exact kD_rel _⟩
theorem jrel_keysT {r0 : List Addr} {H0 : Hp} {i : Nat} {ad : Addr} {od : Obj} {kvs : List (List Key × D)} {vs : List (List Key × V)} (ea : r0[i]? = some ad) (q : H0 ad = some (.frz od (.dT vs))) (rl : RelP K mg r0 H0 kvs vs) :
    JRel K mg r0 H0 (Itkt ad od vs) (kvs.map fun kv => .tup (kv.1.map kD)) (fun h => h[i]? = some (.rdt kvs)) := by
  intro j r H h e k rp g
  have q1 : H ad = some (.frz od (.dT vs)) := k.frz _ _ _ q
  have ln := relP_len rl
  refine ⟨fun d hd => ?_, fun hj => ⟨q1, by rw [← ln]; simpa using hj⟩⟩
  rw [List.getElem?_map] at hd
  obtain ⟨p, hp, rfl⟩ := Option.map_eq_some_iff.mp hd
  obtain ⟨u, hu, e1, _⟩ := relP_get rl hp
  refine ⟨⟨q1, (List.getElem?_eq_some_iff.mp hu).1⟩, fun y H' ⟨e2, k', v', qq, e3, e4, e5⟩ => ?_⟩
  subst e2
  rw [hu] at e3
  cases e3
  subst e4
  exact ⟨Keep.refl _, rp, by rw [← e1]; exact .tup e5 (kDs_rel _)⟩
theorem iter_any {tg : Expr} {pins : List (Addr × Obj)} {s : Shared} {σ : L2.St} {R : It → Hp → Prop} {d : D} {v : V} {u : Value} (I : Inv X pins σ H s) (rp : Rep X.K X.mg r h H) (rl : RelD X.K X.mg r H d v) (rv : RelV v u)
    (p : PostI X.K X.mg W r σ H R (itA d h)) : wpAny (model X.prog X.w) X.A (pyIter u) (PIE X pins σ tg R) X.xe s := by
  unfold itA at p
  cases rl with
  | str z =>
    obtain ⟨t, rfl⟩ := rv
    have q := p r H _ (Ext.refl _) (Keep.refl _) rp jrel_str
    cases ha : z.cps.all (· < 128)
    · exact wpAny_pyIter_wide ha (pi_one (tk := s.toks) I _ (turn_str _ z t "str_iterator" (.inr rfl)) ⟨_, Heap.get?_push_size _ rfl, rfl, rfl⟩ q)
    · exact wpAny_pyIter_ascii ha (pi_one (tk := s.toks) I _ (turn_str _ z t "str_ascii_iterator" (.inl rfl)) ⟨_, Heap.get?_push_size _ rfl, rfl, rfl⟩ q)
  | @tup xs ad vs sq rls =>
    obtain rfl : u = Value.ref ad := rv
    obtain ⟨its, _, pt, _⟩ := I.tuple (SqT.of sq)
    exact wpAny_pyIter_tuple (show s.heap.IsTuple ad its.toArray from pt) (pi_one (tk := s.toks) I _ (turn_tuple ad _) ⟨_, Heap.get?_push_size _ rfl, rfl, rfl⟩ (p r H _ (Ext.refl _) (Keep.refl _) rp (jrel_tup (SqT.of sq) rls)))
  | @stp xs ad vs sq rls =>
    obtain rfl : u = Value.ref ad := rv
    obtain ⟨its, _, pt, _⟩ := I.tuple (sq.sq)
    exact wpAny_pyIter_tuple (show s.heap.IsTuple ad its.toArray from pt) (pi_one (tk := s.toks) I _ (turn_tuple ad _) ⟨_, Heap.get?_push_size _ rfl, rfl, rfl⟩ (p r H _ (Ext.refl _) (Keep.refl _) rp (jrel_tup (sq.sq) rls)))
  | @ref i ad ea =>
    obtain rfl : u = Value.ref ad := rv
    dsimp only at p
    split at p
    · rename_i xs hx
      obtain ⟨vs, sq, rls⟩ := list_at rp ea (.inl hx)
      obtain ⟨its, _, pl, _⟩ := I.list sq
      exact wpAny_pyIter_list pl.isList (pi_one (tk := s.toks) I _ (turn_list ad _) ⟨_, Heap.get?_push_size _ rfl, rfl, rfl⟩ (p r H _ (Ext.refl _) (Keep.refl _) rp (jrel_list ea fun h g => .inl g)))
    · rename_i xs hx
      obtain ⟨vs, sq, rls⟩ := list_at rp ea (.inr hx)
      obtain ⟨its, _, pl, _⟩ := I.list sq
      exact wpAny_pyIter_list pl.isList (pi_one (tk := s.toks) I _ (turn_list ad _) ⟨_, Heap.get?_push_size _ rfl, rfl, rfl⟩ (p r H _ (Ext.refl _) (Keep.refl _) rp (jrel_list ea fun h g => .inr g)))
    · rename_i kvs hx
      obtain ⟨od, vs, hd, rls⟩ := rp.obs _ _ ad hx ea
      obtain ⟨hs, hgd, hxd, es, ep, vs', hdt, hsz, kv, hm⟩ := I.frzK hd
      refine iter_keys hs hgd hxd hdt (pi_one (tk := s.toks) I _ (turn_keys _ hdt) ⟨_, Heap.get?_push_size _ rfl, rfl, ?_⟩ (p r H _ (Ext.refl _) (Keep.refl _) rp (jrel_keys ea hd rls)))
      rw [hsz] <;> rfl
    · rename_i kvs hx
      obtain ⟨od, vs, hd, rls⟩ := rp.obs _ _ ad hx ea
      obtain ⟨hs, hgd, hxd, es, ep, hdt, hsz, ent⟩ := I.frzT hd
      refine iter_keys hs hgd hxd hdt (pi_one (tk := s.toks) I _ (turn_keysT _ hdt) ⟨_, Heap.get?_push_size _ rfl, rfl, ?_⟩ (p r H _ (Ext.refl _) (Keep.refl _) rp (by rw [kD_fun]; exact jrel_keysT ea hd rls)))
      rw [hsz] <;> rfl
    · exact p.elim
  | _ => exact p.elim
theorem qi_any {tg : Expr} (ha : QE X W e ma) : QI X W tg e (iA ma) := by
  refine ⟨fun pins s σ H R I q => ?_⟩
  refine thn (ha.run pins s σ H _ I (rIt.bind (rr := rD) (m := ma) (f := itA) q)) fun u s1 ⟨v, H1, I1, rv, r1, s2, d, h1, rp1, rs1, rl1, p1⟩ => ?_
  exact iter_any I1 rp1 rl1 rv p1
end
end PM
end
section
set_option Elab.async false
set_option linter.all false
set_option maxRecDepth 100000
set_option maxHeartbeats 1000000
namespace PM
open PySem PySem.Spec PyProof.Rows L2

section
variable {X : Cx} {K : PySem.W.Frag} {mg : Str → Option Value} {r : List Addr} {H : Hp} {h : HP} {W : WX} {a b c e o : Expr} {es rest : List Expr} {ma mb mc : ME} {t : MA} {pos pos' apos cpos : Pos}

/-! ### keys that are tuples -/
def keyDs : List D → Option (List Key)
  | [] => some []
  | d :: ds => match keyD d, keyDs ds with
    | some k, some ks => some (k :: ks)
    | _, _ => none
def keyT : D → Option (List Key)
  | .tup xs => keyDs xs
  | _ => none
theorem keyDs_rel : ∀ {ds : List D} {vs : List V} {ks : List Key}, RelDs K mg r H ds vs → keyDs ds = some ks → vs = ks.map kV
  | _, _, _, .nil, e => by cases e; rfl
  | _, _, _, .cons (x := d) a t, e => by
    unfold keyDs at e
    split at e
    · rename_i k ks e1 e2
      cases e
      rw [key_rel a e1, keyDs_rel t e2]; rfl
    · cases e
theorem keyT_rel {d : D} {v : V} {ks : List Key} (rl : RelD K mg r H d v) (e : keyT d = some ks) : ∃ ad, v = .ref ad ∧ H ad = some (.tup (ks.map kV)) := by
  cases rl with
  | @tup xs ad vs q rls => exact ⟨ad, rfl, by rw [← keyDs_rel rls e]; exact q⟩
  | _ => cases e
/-- what a dict holds at a key -/
def lookD (o : Option Ob) (y : D) : Option (Option D) := match o with
  | some (.dic kvs) => (keyD y).map (getK kvs)
  | some (.rdd kvs) => (keyD y).map (getK kvs)
  | some (.dit kvs) => (keyT y).map (getK kvs)
  | some (.rdt kvs) => (keyT y).map (getK kvs)
  | _ => none
def RelOD (K : PySem.W.Frag) (mg : Str → Option Value) (r : List Addr) (H : Hp) : Option D → Option V → Prop
  | some d, some v => RelD K mg r H d v
  | none, none => True
  | _, _ => False
theorem getK_od {κ : Type} [DecidableEq κ] : ∀ {kvs : List (κ × D)} {vs : List (κ × V)} {k : κ}, RelP K mg r H kvs vs → RelOD K mg r H (getK kvs k) (valV vs k)
  | _, _, _, .nil => trivial
  | (k1, d1) :: kvs, (k2, v2) :: vs, k, .cons q t => by
    obtain ⟨q1, q2⟩ := q
    have q1 : k1 = k2 := q1
    subst q1
    by_cases hk : k1 = k
    · have e1 : getK ((k1, d1) :: kvs) k = some d1 := by simp [getK, List.find?_cons, hk]
      rw [e1, valV_pos hk]; exact q2
    · have e1 : getK ((k1, d1) :: kvs) k = getK kvs k := by simp [getK, List.find?_cons, hk]
      rw [e1, valV_neg hk]; exact getK_od t
theorem RelOD.mono {r' : List Addr} {H' : Hp} (e : Ext r r') (k : Keep H H') : ∀ {o : Option D} {o' : Option V}, RelOD K mg r H o o' → RelOD K mg r' H' o o'
  | some _, some _, h => RelD.mono e k h
  | none, none, _ => trivial
theorem lookD_ok {i : Nat} {ad : Addr} {y : D} {v : V} {o : Option D} (rp : Rep K mg r h H) (ea : r[i]? = some ad) (ry : RelD K mg r H y v) (e : lookD h[i]? y = some o) : ∃ o', DGet H ad v o' ∧ RelOD K mg r H o o' := by
  unfold lookD at e
  split at e
  · rename_i kvs hk
    obtain ⟨k, ek, e⟩ := Option.map_eq_some_iff.mp e
    obtain ⟨vs, q, rls⟩ := rp.obs _ _ ad hk ea
    exact ⟨_, by rw [key_rel ry ek]; exact DGet.k q, by rw [← e]; exact getK_od rls⟩
  · rename_i kvs hk
    obtain ⟨k, ek, e⟩ := Option.map_eq_some_iff.mp e
    obtain ⟨od, vs, q, rls⟩ := rp.obs _ _ ad hk ea
    exact ⟨_, by rw [key_rel ry ek]; exact .inl ⟨vs, k, .inr ⟨od, q⟩, rfl, rfl⟩, by rw [← e]; exact getK_od rls⟩
  · rename_i kvs hk
    obtain ⟨k, ek, e⟩ := Option.map_eq_some_iff.mp e
    obtain ⟨vs, q, rls⟩ := rp.obs _ _ ad hk ea
    obtain ⟨bd, ev, qb⟩ := keyT_rel ry ek
    exact ⟨_, by rw [ev]; exact DGet.t q qb, by rw [← e]; exact getK_od rls⟩
  · rename_i kvs hk
    obtain ⟨k, ek, e⟩ := Option.map_eq_some_iff.mp e
    obtain ⟨od, vs, q, rls⟩ := rp.obs _ _ ad hk ea
    obtain ⟨bd, ev, qb⟩ := keyT_rel ry ek
    exact ⟨_, by rw [ev]; exact .inr ⟨vs, k, bd, .inr ⟨od, q⟩, rfl, qb, rfl⟩, by rw [← e]; exact getK_od rls⟩
  · cases e
/-- a dict's entry is stored -/
def putD (i : Nat) (y v : D) (h : HP) : Option HP := match h[i]? with
  | some (.dic kvs) => (keyD y).bind fun k => if kvs.length < 1000000 then some (h.set i (.dic (setK kvs k v))) else none
  | some (.dit kvs) => (keyT y).bind fun k => if kvs.length < 1000000 then some (h.set i (.dit (setK kvs k v))) else none
  | _ => none
theorem putD_ok {i : Nat} {ad : Addr} {y v : D} {vy vv : V} {h' : HP} (rp : Rep K mg r h H) (ea : r[i]? = some ad) (ry : RelD K mg r H y vy) (rv : RelD K mg r H v vv) (e : putD i y v h = some h') :
    ∃ H', DPut H ad vy vv H' ∧ Keep H H' ∧ Rep K mg r h' H' := by
  unfold putD at e
  split at e
  · rename_i kvs hk
    obtain ⟨k, ek, e⟩ := Option.bind_eq_some_iff.mp e
    by_cases hz : kvs.length < 1000000
    · rw [if_pos hz] at e
      cases e
      obtain ⟨vs, q, rls⟩ := rp.obs _ _ ad hk ea
      have st := rp.set (u := .dK (putK vs k vv)) (o' := .dic (setK kvs k v)) hk rfl rfl ea fun kp => ⟨_, upd_same, setK_rel (rv.mono (Ext.refl _) kp) (RelP.mono (Ext.refl _) kp rls)⟩
      exact ⟨_, by rw [key_rel ry ek]; exact DPut.k q (line_lt (by rw [← relP_len rls]; exact hz)), st.2, st.1⟩
    · rw [if_neg hz] at e; cases e
  · rename_i kvs hk
    obtain ⟨k, ek, e⟩ := Option.bind_eq_some_iff.mp e
    by_cases hz : kvs.length < 1000000
    · rw [if_pos hz] at e
      cases e
      obtain ⟨vs, q, rls⟩ := rp.obs _ _ ad hk ea
      obtain ⟨bd, ev, qb⟩ := keyT_rel ry ek
      have st := rp.set (u := .dT (putK vs k vv)) (o' := .dit (setK kvs k v)) hk rfl rfl ea fun kp => ⟨_, upd_same, setK_rel (rv.mono (Ext.refl _) kp) (RelP.mono (Ext.refl _) kp rls)⟩
      exact ⟨_, by rw [ev]; exact DPut.t q qb (line_lt (by rw [← relP_len rls]; exact hz)), st.2, st.1⟩
    · rw [if_neg hz] at e; cases e
  · cases e
/-- {} with tuples as keys to come -/
def mDictT : ME := fun _ h => .ok (.ref h.length) (h ++ [.dit []])
theorem qe_dictT : QE X W (.Dict [] [] pos) mDictT := pe_dnewT.imp fun σ H Q ⟨r, s, h, rp, rs, p⟩ => by
  intro ad hn
  refine p (r ++ [ad]) _ _ (Ext.one r ad) (Keep.new hn) (rp.new hn ⟨[], upd_same, .nil⟩) (.ref ?_)
  rw [List.getElem?_append_right (by rw [rp.len]; exact Nat.le_refl _), rp.len]; simp

/-! ### in -/
def inC (x y : D) (h : HP) : Option Bool := match y with
  | .ref i => match lookD h[i]? x with
    | some o => some o.isSome
    | none => match inB x y h with
      | some b => some b
      | none => match toPy 60 h x, toPy 61 h y with
        | some p, some (.list ps) => if SeqAt.shaped p = true ∧ SeqAt.shaped (.list ps) = true then some (ps.any fun z => PyData.eqv z p) else none
        | _, _ => none
  | _ => inB x y h
def inH (neg : Bool) : D → D → HP → Option (D × HP) := fun x y h => (inC x y h).map fun b => (.bl (if neg then !b else b), h)
theorem isSome_od : ∀ {o : Option D} {o' : Option V}, RelOD K mg r H o o' → o'.isSome = o.isSome
  | some _, some _, _ => rfl
  | none, none, _ => rfl
theorem inC_ok {pins : List (Addr × Obj)} {s : Shared} {σ : L2.St} {x y : D} {v u : V} {bb : Bool} (rp : Rep K mg r h H) (rx : RelD K mg r H x v) (ry : RelD K mg r H y u) (e : inC x y h = some bb) :
    (∃ ad o', u = .ref ad ∧ DGet H ad v o' ∧ o'.isSome = bb) ∨ inB x y h = some bb ∨ ∃ d ds, Dp K H v d ∧ Dp K H u (.list ds) ∧ SeqAt.shaped d = true ∧ SeqAt.shaped (.list ds) = true ∧ (ds.any fun z => PyData.eqv z d) = bb := by
  unfold inC at e
  cases ry with
  | @ref i ad ea =>
    dsimp only at e
    split at e
    · rename_i o ho
      cases e
      obtain ⟨o', g, q⟩ := lookD_ok rp ea rx ho
      exact .inl ⟨ad, o', rfl, g, isSome_od q⟩
    · split at e
      · rename_i b' hb
        cases e
        exact .inr (.inl hb)
      · split at e
        · rename_i p ps e1 e2
          split at e
          · rename_i hz
            cases e
            exact .inr (.inr ⟨p, ps, toPy_ok rp 60 x p v e1 rx, toPy_ok rp 61 _ _ _ e2 (.ref ea), hz.1, hz.2, rfl⟩)
          · cases e
        · cases e
  | _ => exact .inr (.inl e)
theorem op_inH (hu : X.A.units + 65 < cLine) : OpR X (compareOp .In) (rV2 X.K X.mg (inH false)) := by
  intro pins s σ H x y v u Q I rx ry ⟨r, a, b, h, rp, ra, rb, p⟩
  unfold inH at p
  cases e : inC a b h with
  | none => rw [e] at p; exact p.elim
  | some z =>
    rw [e] at p
    rcases inC_ok (pins := pins) (s := s) (σ := σ) rp ra rb e with ⟨ad, o', rfl, g, ez⟩ | q | ⟨d, ds, z1, z2, z3, z4, z5⟩
    · obtain rfl : u = Value.ref ad := ry
      exact d_in (by omega) I g rx fun s' I' => ⟨.bl _, H, I', rfl, by rw [ez]; exact p.here rp (.bl _)⟩
    · exact op_inG pins s σ H _ _ v u Q I rx ry ⟨r, a, b, h, rp, ra, rb, by unfold inG; rw [q]; exact p⟩
    · exact op_inD hu pins s σ H _ _ v u Q I rx ry ⟨d, ds, z1, z2, z3, z4, by rw [z5]; exact p.here rp (.bl _)⟩
theorem op_ninH (hu : X.A.units + 65 < cLine) : OpR X (compareOp .NotIn) (rV2 X.K X.mg (inH true)) := by
  intro pins s σ H x y v u Q I rx ry ⟨r, a, b, h, rp, ra, rb, p⟩
  unfold inH at p
  cases e : inC a b h with
  | none => rw [e] at p; exact p.elim
  | some z =>
    rw [e] at p
    rcases inC_ok (pins := pins) (s := s) (σ := σ) rp ra rb e with ⟨ad, o', rfl, g, ez⟩ | q | ⟨d, ds, z1, z2, z3, z4, z5⟩
    · obtain rfl : u = Value.ref ad := ry
      exact d_notIn (by omega) I g rx fun s' I' => ⟨.bl _, H, I', rfl, by rw [ez]; exact p.here rp (.bl _)⟩
    · exact op_ninG pins s σ H _ _ v u Q I rx ry ⟨r, a, b, h, rp, ra, rb, by unfold inG; rw [q]; exact p⟩
    · exact op_notInD hu pins s σ H _ _ v u Q I rx ry ⟨d, ds, z1, z2, z3, z4, by rw [z5]; exact p.here rp (.bl _)⟩

/-! ### x[y] -/
def itemH : D → D → HP → Option (D × HP) := fun x y h => match x with
  | .ref j => match lookD h[j]? y with
    | some (some d) => some (d, h)
    | some none => none
    | none => itemG x y h
  | _ => itemG x y h
theorem qe_subH (hu : X.A.units + 1 < cLine) (ha : QE X W a ma) (hb : QE X W b mb) (hs : PlainIx b := by exact fun _ _ => rfl) (hs2 : NoSl b := by exact fun _ _ => rfl) : QE X W (.Subscript a b pos) (m2 itemH ma mb) := by
  have h1 := qe_sub (pos := pos) hu ha hb hs hs2
  have h2 := pe_dget (pos := pos) hu ha hb hs2
  refine ⟨fun pins s σ H Q I q => ?_⟩
  obtain ⟨r0, s0, h0, rp0, rs0, p0⟩ := q
  by_cases hd : ∃ x h1 y h2 j o, ma s0 h0 = .ok x h1 ∧ mb s0 h1 = .ok y h2 ∧ x = .ref j ∧ lookD h2[j]? y = some o
  · refine h2.run pins s σ H Q I ?_
    obtain ⟨x, h1, y, h2, j, o, e1, e2, rfl, e4⟩ := hd
    refine ⟨r0, s0, h0, rp0, rs0, ?_⟩
    have p1 : Post X.K X.mg rD W r0 σ H Q (ofO (itemH (.ref j) y h2)) := by
      have z : m2 itemH ma mb s0 h0 = ofO (itemH (.ref j) y h2) := by unfold m2; rw [e1]; show (mb s0 h1).bind _ = _; rw [e2]; rfl
      rw [← z]; exact p0
    rw [e1]
    intro r1 v H1 x1 k1 rp1 rl1
    refine ⟨r1, s0, h1, rp1, rs0.mono x1 k1, ?_⟩
    rw [e2]
    have p3 := p1.ofO
    unfold itemH at p3
    dsimp only at p3
    rw [e4] at p3
    intro r2 u H2 x2 k2 rp2 rl2
    cases o with
    | none => exact p3.elim
    | some d =>
      cases rl1 with
      | @ref _ ad ea =>
        obtain ⟨o', g, q⟩ := lookD_ok rp2 (x2.get ea) rl2 e4
        cases o' with
        | none => exact (show False from q).elim
        | some w => exact ⟨ad, w, rfl, g, p3 r2 w H2 (x1.trans x2) (k1.trans k2) rp2 q⟩
  · refine h1.run pins s σ H Q I ⟨r0, s0, h0, rp0, rs0, ?_⟩
    have z : m2 itemH ma mb s0 h0 = m2 itemG ma mb s0 h0 := by
      unfold m2
      cases e1 : ma s0 h0 with
      | ok x h1 =>
        show ((mb s0 h1).bind fun y h => ofO (itemH x y h)) = (mb s0 h1).bind fun y h => ofO (itemG x y h)
        cases e2 : mb s0 h1 with
        | ok y h2 =>
          show ofO (itemH x y h2) = ofO (itemG x y h2)
          congr 1
          unfold itemH
          cases x with
          | ref j =>
            dsimp only
            split
            · rename_i d e4
              exact absurd ⟨_, h1, y, h2, j, _, e1, e2, rfl, e4⟩ hd
            · rename_i e4
              exact absurd ⟨_, h1, y, h2, j, _, e1, e2, rfl, e4⟩ hd
            · rfl
          | _ => rfl
        | exc c fs h2 => rfl
        | bad => rfl
      | exc c fs h1 => rfl
      | bad => rfl
    rw [← z]; exact p0

/-! ### d.get(k, x), d.setdefault(k, x) -/
def getG : D → List D → HP → Option (D × HP) := fun x ds h => match x, ds with
  | .ref i, [y, z] => (lookD h[i]? y).map fun o => (o.getD z, h)
  | .ref i, [y] => (lookD h[i]? y).map fun o => (o.getD .non, h)
  | _, _ => none
theorem getD_od : ∀ {o : Option D} {o' : Option V} {z : D} {w : V}, RelOD K mg r H o o' → RelD K mg r H z w → RelD K mg r H (o.getD z) (o'.getD w)
  | some _, some _, _, _, h, _ => h
  | none, none, _, _, _, h => h
theorem mt_getG (hu : X.A.units + 1 < cLine) : MtR X "dict.get" (rVm X.K X.mg getG) := by
  intro pins s σ H x xs v us Q I rx rv ⟨r, d, ds, h, rp, rl, rls, p⟩
  unfold getG at p
  split at p
  · rename_i i y z
    obtain ⟨v1, v2, rfl, ry, rz⟩ := two_of rls
    cases rl with
    | @ref _ ad ea =>
      cases e : lookD h[i]? y with
      | none => rw [e] at p; exact p.elim
      | some o =>
        rw [e] at p
        obtain ⟨o', g, q⟩ := lookD_ok rp ea ry e
        obtain rfl : v = Value.ref ad := rx
        cases rv with
        | cons rv1 rr =>
          cases rr with
          | cons rv2 rr =>
            cases rr
            exact d_get2 hu I g rv1 rv2 fun w' s' I' rw' => ⟨_, H, I', rw', p.here rp (getD_od q rz)⟩
  · rename_i i y
    obtain ⟨v1, rfl, ry⟩ := one_of (ds := []) rls
    cases rl with
    | @ref _ ad ea =>
      cases e : lookD h[i]? y with
      | none => rw [e] at p; exact p.elim
      | some o =>
        rw [e] at p
        obtain ⟨o', g, q⟩ := lookD_ok rp ea ry e
        obtain rfl : v = Value.ref ad := rx
        cases rv with
        | cons rv1 rr =>
          cases rr
          exact d_get1 hu I g rv1 fun w' s' I' rw' => ⟨_, H, I', rw', p.here rp (getD_od q .non)⟩
  · exact p.elim
theorem d_setdT {pins : List (Addr × Obj)} {σ : L2.St} {s : Shared} {ad bd : Addr} {kvs : List (List Key × V)} {k : List Key} {z : V} {rz : Value} {A : Around} {E : Value → Shared → Prop} {Q : Value → Shared → Prop} (hu : A.units + 1 < cLine) (I : Inv X pins σ H s) (hd : H ad = some (.dT kvs))
    (hb : H bd = some (.tup (k.map kV))) (rd : RelV z rz) (hl : kvs.length < sizeLine) (h1 : ∀ v, valV kvs k = some v → ∀ w' s', Inv X pins σ H s' → RelV v w' → Q w' s')
    (h2 : valV kvs k = none → ∀ s', Inv X pins σ (upd H ad (.dT (putK kvs k z))) s' → Q rz s') : wpAny (model X.prog X.w) A (call (.builtin "dict.setdefault") [.ref ad, .ref bd, rz]) Q E s := by
  obtain ⟨hz0, hsm, xs, rel, dd⟩ := dt_of I.hok hd
  have hz : xs.length ≤ sizeLine := by rw [← Paired.length rel]; exact hz0
  have hl2 : (putK kvs k z).length ≤ sizeLine := by have := length_putK kvs k z; omega
  have rv := rel.val k
  refine call_setdefault_heap (hsz := hz) (tupleKind_room_in1 hu) (key_of I.hok hb) hsm dd (fun p hp => ?_) fun hn h' dd' hs => ?_
  · rw [hp] at rv
    cases q0 : valV kvs k with
    | none => rw [q0] at rv; exact (show False from rv).elim
    | some v0 => rw [q0] at rv; exact h1 v0 q0 _ _ (I.tok _) rv
  · rw [hn] at rv
    cases q0 : valV kvs k with
    | some v0 => rw [q0] at rv; exact (show False from rv).elim
    | none =>
      obtain ⟨q, es, ep, hq, g2, g3, g4, _, g5⟩ := dd'
      refine h2 q0 _ (d_write I (by rw [hd]; exact True.intro) hs ⟨q, hq⟩ ⟨hl2, hsm, _, (rel.put k hb rd).keeps fun c ys ec => ?_, q, es, ep, hq, g2, g3, g4, g5⟩)
      rw [upd_ne (ne_of ec hd (fun z => nomatch z))]
      exact ec
def setdG : D → List D → HP → Option (D × HP) := fun x ds h => match x, ds with
  | .ref i, [y, z] => match h[i]? with
    | some (.dic kvs) => if kvs.length < 1000000 then (keyD y).bind fun k => match getK kvs k with
      | some d => some (d, h)
      | none => some (z, h.set i (.dic (setK kvs k z))) else none
    | some (.dit kvs) => if kvs.length < 1000000 then (keyT y).bind fun k => match getK kvs k with
      | some d => some (d, h)
      | none => some (z, h.set i (.dit (setK kvs k z))) else none
    | _ => none
  | _, _ => none
theorem mt_setdG (hu : X.A.units + 1 < cLine) : MtR X "dict.setdefault" (rVm X.K X.mg setdG) := by
  intro pins s σ H x xs v us Q I rx rv ⟨r, d, ds, h, rp, rl, rls, p⟩
  unfold setdG at p
  split at p
  · rename_i i y z
    obtain ⟨v1, v2, rfl, ry, rz⟩ := two_of rls
    cases rl with
    | @ref _ ad ea =>
      obtain rfl : v = Value.ref ad := rx
      cases rv with
      | cons rv1 rr =>
        cases rr with
        | cons rv2 rr =>
          cases rr
          split at p
          · rename_i kvs hk
            obtain ⟨vs, q, rlv⟩ := rp.obs _ _ ad hk ea
            by_cases hz : kvs.length < 1000000
            · rw [if_pos hz] at p
              cases ek : keyD y with
              | none => rw [ek] at p; exact p.elim
              | some k =>
                rw [ek, Option.bind_some] at p
                obtain rfl := key_rel ry ek
                have od := getK_od (k := k) rlv
                refine d_setd I q rv1 rv2 (line_lt (by rw [← relP_len rlv]; exact hz)) (fun w hw w' s' I' rw' => ?_) fun hn w' s' I' rw' => ?_
                · rw [hw] at od
                  cases g : getK kvs k with
                  | none => rw [g] at od; exact (show False from od).elim
                  | some d0 =>
                    rw [g] at p od
                    exact ⟨w, H, I', rw', p.here rp od⟩
                · rw [hn] at od
                  cases g : getK kvs k with
                  | some d0 => rw [g] at od; exact (show False from od).elim
                  | none =>
                    rw [g] at p
                    have st := rp.set (u := .dK (putK vs k v2)) (o' := .dic (setK kvs k z)) hk rfl rfl ea fun kp => ⟨_, upd_same, setK_rel (rz.mono (Ext.refl _) kp) (RelP.mono (Ext.refl _) kp rlv)⟩
                    exact ⟨v2, _, I', rw', p r _ _ (Ext.refl _) st.2 st.1 (rz.mono (Ext.refl _) st.2)⟩
            · rw [if_neg hz] at p; exact p.elim
          · rename_i kvs hk
            obtain ⟨vs, q, rlv⟩ := rp.obs _ _ ad hk ea
            by_cases hz : kvs.length < 1000000
            · rw [if_pos hz] at p
              cases ek : keyT y with
              | none => rw [ek] at p; exact p.elim
              | some k =>
                rw [ek, Option.bind_some] at p
                obtain ⟨bd, rfl, qb⟩ := keyT_rel ry ek
                have od := getK_od (k := k) rlv
                have rv1 : _ = Value.ref bd := rv1
                subst rv1
                refine d_setdT hu I q qb rv2 (line_lt (by rw [← relP_len rlv]; exact hz)) (fun w hw w' s' I' rw' => ?_) fun hn s' I' => ?_
                · rw [hw] at od
                  cases g : getK kvs k with
                  | none => rw [g] at od; exact (show False from od).elim
                  | some d0 =>
                    rw [g] at p od
                    exact ⟨w, H, I', rw', p.here rp od⟩
                · rw [hn] at od
                  cases g : getK kvs k with
                  | some d0 => rw [g] at od; exact (show False from od).elim
                  | none =>
                    rw [g] at p
                    have st := rp.set (u := .dT (putK vs k v2)) (o' := .dit (setK kvs k z)) hk rfl rfl ea fun kp => ⟨_, upd_same, setK_rel (rz.mono (Ext.refl _) kp) (RelP.mono (Ext.refl _) kp rlv)⟩
                    exact ⟨v2, _, I', rv2, p r _ _ (Ext.refl _) st.2 st.1 (rz.mono (Ext.refl _) st.2)⟩
            · rw [if_neg hz] at p; exact p.elim
          · exact p.elim
  · exact p.elim
end
end PM
end
section
set_option Elab.async false
set_option linter.all false
set_option maxRecDepth 100000
set_option maxHeartbeats 1000000
namespace PM
open PySem PySem.Spec PyProof.Rows L2

section
variable {X : Cx} {K : PySem.W.Frag} {mg : Str → Option Value} {r : List Addr} {H : Hp} {h : HP} {W : WX} {a b c e o : Expr} {es rest : List Expr} {ma mb mc : ME} {t : MA} {pos pos' apos cpos : Pos}

/-! ### items of a dict that is locked, keys of tuples -/
def ItiT (d : Addr) (od : Obj) (kvs : List (List Key × V)) : It :=
  ⟨fun i H => H d = some (.frz od (.dT kvs)) ∧ i < kvs.length,
   fun i H x H' => ∃ T k v q, kvs[i]? = some (k, v) ∧ x = .ref T ∧ H T = none ∧ H q = some (.tup (k.map kV)) ∧ H' = upd H T (.tup [.ref q, v]),
   fun i H => H d = some (.frz od (.dT kvs)) ∧ kvs.length ≤ i⟩
theorem frzT2 {pins : List (Addr × Obj)} {σ : L2.St} {s : Shared} {d : Addr} {od : Obj} {kvs : List (List Key × V)} (I : Inv X pins σ H s) (hd : H d = some (.frz od (.dT kvs))) :
    (d == sysModules) = false ∧ ∃ (es : Array DictEntry) (ep : Nat), DT.Raw s.heap d es ep ∧ od.data = .dict es ep ∧ es.size = kvs.length ∧
      ∀ (i : Nat) (k : List Key) (v : V), kvs[i]? = some (k, v) → ∃ (en : DictEntry) (q : Addr), es[i]? = some en ∧ en.key = .ref q ∧ H q = some (.tup (k.map kV)) ∧ RelV v en.val := by
  obtain ⟨g1, _, g2, xs, pr, o', es, ep, ho, hx, hdt, he, _⟩ := I.hok d _ hd
  rw [g1] at ho
  cases ho
  refine ⟨g2, es, ep, ⟨_, g1, hx, hdt⟩, hdt, ?_, fun i k v z => ?_⟩
  · rw [size_of_entries he, ← Paired.length pr]
  · obtain ⟨y, hy, z1, z2, z3⟩ := L2.paired_get pr z
    have q := entry_at he i
    rw [hy] at q
    exact ⟨_, y.2.1, q, rfl, z2, z3⟩
theorem turn_itemsT {P : Program} {w : World} {d : Addr} {od : Obj} {kvs : List (List Key × V)} {elts : List Expr} {kk : Nat} {tpos : Pos} {es : Array DictEntry} {ep : Nat} (it : Addr) (hod : od.data = .dict es ep) (hn : es.size = kvs.length) :
    Turn P w K (.Tuple elts kk tpos) (ItiT d od kvs) [it] it (fun i h => ∃ ok ov, IsItemIter h it d i es.size ep ok ov) where
  mem := by simp
  obj := fun i h ⟨_, _, q⟩ b hb => by
    obtain rfl : b = it := by simpa using hb
    exact ⟨_, q, fun v z => nomatch z⟩
  keep := fun i h h' ⟨ok, ov, q⟩ k => ⟨ok, ov, k it (by simp) _ q⟩
  item := by
    intro X hP hw hK hc i pins s σ H E I hf ⟨ok, ov, q⟩ ⟨hd, hi⟩
    subst hP hw hK
    obtain ⟨g1, es', ep', raw, hdt, hsz, ent⟩ := frzT2 I hd
    obtain ⟨rfl, rfl⟩ := dict_ep hod hdt
    obtain ⟨⟨k, v⟩, hkv⟩ : ∃ p, kvs[i]? = some p := ⟨kvs[i], List.getElem?_eq_getElem hi⟩
    obtain ⟨en, qa, hen, hkey, hqa, rv⟩ := ent i k v hkv
    have hlt : it < s.heap.objs.size := Heap.lt_size q
    have hi2 : i < es'.size := by rw [hn]; exact hi
    have hget : es'[i] = en := by rw [Array.getElem?_eq_getElem hi2] at hen; exact Option.some.inj hen
    refine DT.nextI q raw hi2 fun h' hout hT hz hk => ?_
    rw [hget] at hout hT
    refine ⟨_, rfl, wpAny_letOwnedTupleGo_items (s := { s with heap := h' }) hout fun h2 he2 sb => ?_⟩
    have hT2 : h2.get? s.heap.objs.size = some { cls := .type "tuple", data := .seq #[en.key, en.val] } := (sb.2 _ (Nat.ne_of_gt hlt)).trans hT
    have hv : Vals [.ref qa, v] [en.key, en.val] := .cons (by rw [hkey]; rfl) (.cons rv .nil)
    have new : ObjOk X.prog X.w (upd H s.heap.objs.size (.tup [.ref qa, v])) h2 s.heap.objs.size (.tup [.ref qa, v]) := ⟨(by decide : 2 ≤ sizeLine), _, hv, ⟨_, hT2, rfl, _, rfl⟩⟩
    have I1 := I.turnedNew (h' := h2) (t' := s.toks) (ch := [it]) (fun b ob hb z => (sb.2 b (by simpa using hb)).trans (hk b ob (by simpa using hb) z)) hf (Nat.le_refl _) new
    refine ⟨.ref s.heap.objs.size, _, I1, rfl, ⟨_, k, v, qa, hkv, rfl, I.hok.fresh (Nat.le_refl _), hqa, rfl⟩, ⟨_, _, he2⟩, fun b hb => ?_⟩
    obtain rfl : b = it := by simpa using hb
    rw [upd_ne (Nat.ne_of_lt hlt)]
    exact (hf b hb).1
  done := by
    intro X hP hw hK hc i pins s σ H E I hf ⟨ok, ov, q⟩ ⟨hd, hi⟩
    subst hP hw hK
    obtain ⟨f0, f1, f2, f3, f4, f5⟩ := hf it (by simp)
    obtain ⟨g1, es', ep', raw, hdt, hsz, ent⟩ := frzT2 I hd
    obtain ⟨rfl, rfl⟩ := dict_ep hod hdt
    exact DT.endI (I.ok.hd hc) q raw (by rw [hn]; exact hi) fun h' eb => ⟨rfl, I.turned (t' := s.toks) (fun b ob hb z => eb b ob hb z) f0 f1 f3 f4 f5⟩
  self := fun A i s Q E ⟨_, _, q⟩ z => PySem.W.kcp_self q z
/-- the items of a locked dict -/
def itItems : D → HP → R (List D × (HP → Prop)) := fun d h => match d with
  | .ref i => match h[i]? with
    | some (.rdd kvs) => .ok (kvs.map fun kv => .tup [kD kv.1, kv.2], fun h => h[i]? = some (.rdd kvs)) h
    | some (.rdt kvs) => .ok (kvs.map fun kv => .tup [.tup (kv.1.map kD), kv.2], fun h => h[i]? = some (.rdt kvs)) h
    | _ => .bad
  | _ => .bad
def iItemsM (a : ME) : MI := fun s h => (a s h).bind itItems
theorem jrel_items {r0 : List Addr} {H0 : Hp} {i : Nat} {ad : Addr} {od : Obj} {kvs : List (Key × D)} {vs : List (Key × V)} (q : H0 ad = some (.frz od (.dK vs))) (rl : RelP K mg r0 H0 kvs vs) :
    JRel K mg r0 H0 (Iti ad od vs) (kvs.map fun kv => .tup [kD kv.1, kv.2]) (fun h => h[i]? = some (.rdd kvs)) := by
  intro j r H h e k rp g
  have q1 : H ad = some (.frz od (.dK vs)) := k.frz _ _ _ q
  have ln := relP_len rl
  refine ⟨fun d hd => ?_, fun hj => ⟨q1, by rw [← ln]; simpa using hj⟩⟩
  rw [List.getElem?_map] at hd
  obtain ⟨p, hp, rfl⟩ := Option.map_eq_some_iff.mp hd
  obtain ⟨u, hu, e1, e2⟩ := relP_get rl hp
  refine ⟨⟨q1, (List.getElem?_eq_some_iff.mp hu).1⟩, fun y H' ⟨T, k', v', e3, e4, e5, e6⟩ => ?_⟩
  rw [hu] at e3
  cases e3
  subst e4 e6
  have kn : Keep H (upd H T (.tup [kV p.1, v'])) := Keep.new e5
  refine ⟨by rw [← e1] at kn; exact kn, rp.fresh e5, .tup upd_same (.cons (by rw [← e1]; exact kD_rel _) (.cons ((e2.mono e k).mono (Ext.refl _) ?_) .nil))⟩
  rw [← e1] at kn; exact kn
theorem jrel_itemsT {r0 : List Addr} {H0 : Hp} {i : Nat} {ad : Addr} {od : Obj} {kvs : List (List Key × D)} {vs : List (List Key × V)} (q : H0 ad = some (.frz od (.dT vs))) (rl : RelP K mg r0 H0 kvs vs) :
    JRel K mg r0 H0 (ItiT ad od vs) (kvs.map fun kv => .tup [.tup (kv.1.map kD), kv.2]) (fun h => h[i]? = some (.rdt kvs)) := by
  intro j r H h e k rp g
  have q1 : H ad = some (.frz od (.dT vs)) := k.frz _ _ _ q
  have ln := relP_len rl
  refine ⟨fun d hd => ?_, fun hj => ⟨q1, by rw [← ln]; simpa using hj⟩⟩
  rw [List.getElem?_map] at hd
  obtain ⟨p, hp, rfl⟩ := Option.map_eq_some_iff.mp hd
  obtain ⟨u, hu, e1, e2⟩ := relP_get rl hp
  refine ⟨⟨q1, (List.getElem?_eq_some_iff.mp hu).1⟩, fun y H' ⟨T, k', v', qa, e3, e4, e5, e7, e6⟩ => ?_⟩
  rw [hu] at e3
  cases e3
  subst e4 e6
  have kn : Keep H (upd H T (.tup [.ref qa, v'])) := Keep.new e5
  exact ⟨kn, rp.fresh e5, .tup upd_same (.cons (.tup (kn.tup _ _ e7) (by rw [← e1]; exact kDs_rel _)) (.cons ((e2.mono e k).mono (Ext.refl _) kn) .nil))⟩
theorem qi_items {elts : List Expr} {kk : Nat} {tpos : Pos} (ha : QE X W e ma) (hbase : attributeBase e "items" X.env (eval e X.env) = eval e X.env := by rfl) (hline : (apos.endLine == cpos.line) = true := by rfl) :
    QI X W (.Tuple elts kk tpos) (.Call (.Attribute e "items" apos) [] [] cpos) (iItemsM ma) := by
  refine ⟨fun pins s σ H R I q => ?_⟩
  refine wpAny_Call_method (T := "dict") (id := "dict.items") hbase rfl hline F.plainAttrs_dict F.slot_dict_items F.type_dict_items (thn (ha.run pins s σ H _ I (rIt.bind (rr := rD) (m := ma) (f := itItems) q)) fun u s1 ⟨v, H1, I1, rv, r1, s2, d, h1, rp1, rs1, rl1, p1⟩ => ?_)
  unfold itItems at p1
  cases rl1 with
  | @ref i ad ea =>
    obtain rfl : u = Value.ref ad := rv
    dsimp only at p1
    have I2 : Inv X pins σ H1 { s1 with heap := s1.heap.push { cls := .type "dict_items", data := .fields #[.ref ad] } } := I1.kept (t' := s1.toks) fun b ob q => Heap.get?_push_of_some _ q
    split at p1
    · rename_i kvs hk
      obtain ⟨od, vs, hd, rls⟩ := rp1.obs _ _ ad hk ea
      obtain ⟨hs, hgd, hx, es, ep, vs', hdt, hsz, kv, hm⟩ := I1.frzK hd
      have hl : vs.length = vs'.length := Paired.length kv
      refine ⟨hm.dictOf.typeIs, hm.dictOf.mapOf.noDict, ?_⟩
      show wpAny _ _ (callWith cpos (.builtin "dict.items") [.ref ad] [] []) _ X.xe s1
      refine method_meetsIn F.slot_dict_items F.entry_dict_items rfl (PySem.evalArgs_none ⟨rfl, hm.dictOf.typeIs, F.args_dict_items_1 _, _, meets_dict_items (mixKind X.prog X.w) ad hs, ⟨vs', hm.dictOf⟩, ?_⟩)
      refine wpAny_pyIter_items (d := ad) (knd := mixKind X.prog X.w) ⟨_, Heap.get?_push_size _ rfl, rfl, rfl⟩ (hm.push _) (pi_one (tk := s1.toks) I2 _ (turn_items _ hdt) ⟨.none, .none, ?_⟩ (p1 r1 H1 _ (Ext.refl _) (Keep.refl _) rp1 (jrel_items hd rls)))
      rw [hl]
      exact Heap.get?_push_size _ rfl
    · rename_i kvs hk
      obtain ⟨od, vs, hd, rls⟩ := rp1.obs _ _ ad hk ea
      obtain ⟨hs, es, ep, raw, hdt, hsz, ent⟩ := frzT2 I1 hd
      refine ⟨raw.typeIs, fun b z => ?_, ?_⟩
      · cases z
        obtain ⟨o, ho, hc, _⟩ := raw
        exact ⟨o, ho, hc.2.1⟩
      · show wpAny _ _ (callWith cpos (.builtin "dict.items") [.ref ad] [] []) _ X.xe s1
        refine method_meetsIn F.slot_dict_items F.entry_dict_items rfl (PySem.evalArgs_none ⟨rfl, raw.typeIs, F.args_dict_items_1 _, _, DT.meetsItems (es := es) (ep := ep) hs, ⟨raw, ?_⟩⟩)
        exact DT.iterI (d := ad) ⟨_, Heap.get?_push_size _ rfl, rfl, rfl⟩ (raw.push _) (pi_one (tk := s1.toks) I2 _ (turn_itemsT _ hdt hsz) ⟨.none, .none, Heap.get?_push_size _ rfl⟩ (p1 r1 H1 _ (Ext.refl _) (Keep.refl _) rp1 (jrel_itemsT hd rls)))
    · exact p1.elim
  | _ => exact p1.elim
end
end PM
end
section
set_option Elab.async false
set_option linter.all false
set_option maxRecDepth 100000
set_option maxHeartbeats 1000000
namespace PM
open PySem PySem.Spec PyProof.Rows L2

/-! ### a dict is locked while it is walked -/
/-- the abstract heap's thing, and that thing locked -/
def lkO (o : Ob) : Option Ob := match o with
  | .dic kvs => some (.rdd kvs)
  | .dit kvs => some (.rdt kvs)
  | _ => none
section
variable {X : Cx} {K : PySem.W.Frag} {mg : Str → Option Value} {r : List Addr} {H : Hp} {h : HP} {W : WX} {e : Expr} {me : ME} {n : Nat} {ad : Addr}
/-- what a lock is: the thing u of the abstract heap, its plain form -/
structure Lk (K : PySem.W.Frag) (mg : Str → Option Value) (o o' : Ob) (u : HO) : Prop where
  mt : Mut (some u)
  lock : ∀ r H a od, H a = some u → RepO K mg r H o a → RepO K mg r (upd H a (.frz od u)) o' a
  back : ∀ r0 H0 r H a od, Ext r0 r → Keep H0 H → H0 a = some (.frz od u) → RepO K mg r0 H0 o' a → H a = some (.frz od u) → RepO K mg r (upd H a u) o a
  uq1 : uq o = true
  uq2 : uq o' = true
  mu1 : mu o = true
  mu2 : mu o' = false
  nt : ∀ xs, u ≠ .tup xs
  nf : ∀ ob v, u ≠ .frz ob v
  nx : ∀ fs, u ≠ .xd fs
mutual
theorem RelD.unl {od : Obj} {u : HO} {a : Addr} (hu : H a = some (.frz od u)) (nt : ∀ xs, u ≠ .tup xs) {d : D} {v : V} (q : RelD K mg r H d v) : RelD K mg r (upd H a u) d v := match q with
  | .non => .non
  | .bl b => .bl b
  | .int i => .int i
  | .str x => .str x
  | .tup s t => .tup (by rw [upd_ne (ne_of s hu (fun z => nomatch z))]; exact s) (RelDs.unl hu nt t)
  | .stp s t => .stp (by
      rcases s with ⟨o, e, d⟩ | s
      · exact .inl ⟨o, by rw [upd_ne (ne_of e hu (fun z => by injection z with z1 z2; exact nt _ z2.symm))]; exact e, d⟩
      · exact .inr s) (RelDs.unl hu nt t)
  | .ref q => .ref q
  | .fn q => .fn q
  | .ty n => .ty n
theorem RelDs.unl {od : Obj} {u : HO} {a : Addr} (hu : H a = some (.frz od u)) (nt : ∀ xs, u ≠ .tup xs) {d : List D} {v : List V} (q : RelDs K mg r H d v) : RelDs K mg r (upd H a u) d v := match q with
  | .nil => .nil
  | .cons a b => .cons (RelD.unl hu nt a) (RelDs.unl hu nt b)
end
theorem RelP.unl {κ : Type} {od : Obj} {u : HO} {a : Addr} (hu : H a = some (.frz od u)) (nt : ∀ xs, u ≠ .tup xs) : ∀ {ds : List (κ × D)} {vs : List (κ × V)}, RelP K mg r H ds vs → RelP K mg r (upd H a u) ds vs
  | _, _, .nil => .nil
  | _, _, .cons q t => .cons ⟨q.1, q.2.unl hu nt⟩ (RelP.unl hu nt t)
theorem lk_dic {kvs : List (Key × D)} {vs : List (Key × V)} (R0 : RelP K mg r H kvs vs) (hv : H ad = some (.dK vs)) : Lk K mg (.dic kvs) (.rdd kvs) (.dK vs) where
  mt := trivial
  lock := fun r H a od e ⟨vs', q, t⟩ => by
    rw [e] at q; cases q
    exact ⟨od, vs, upd_same, RelP.mono (Ext.refl _) (Keep.mut e (fun _ z => nomatch z) (fun _ _ z => nomatch z) (fun _ z => nomatch z)) t⟩
  back := fun r0 H0 r H a od x k e0 ⟨od', vs', q, t⟩ e => by
    rw [e0] at q; cases q
    exact ⟨vs, upd_same, RelP.unl e (fun _ z => nomatch z) (RelP.mono x k t)⟩
  uq1 := rfl
  uq2 := rfl
  mu1 := rfl
  mu2 := rfl
  nt := fun _ z => nomatch z
  nf := fun _ _ z => nomatch z
  nx := fun _ z => nomatch z
theorem lk_dit {kvs : List (List Key × D)} {vs : List (List Key × V)} (R0 : RelP K mg r H kvs vs) (hv : H ad = some (.dT vs)) : Lk K mg (.dit kvs) (.rdt kvs) (.dT vs) where
  mt := trivial
  lock := fun r H a od e ⟨vs', q, t⟩ => by
    rw [e] at q; cases q
    exact ⟨od, vs, upd_same, RelP.mono (Ext.refl _) (Keep.mut e (fun _ z => nomatch z) (fun _ _ z => nomatch z) (fun _ z => nomatch z)) t⟩
  back := fun r0 H0 r H a od x k e0 ⟨od', vs', q, t⟩ e => by
    rw [e0] at q; cases q
    exact ⟨vs, upd_same, RelP.unl e (fun _ z => nomatch z) (RelP.mono x k t)⟩
  uq1 := rfl
  uq2 := rfl
  mu1 := rfl
  mu2 := rfl
  nt := fun _ z => nomatch z
  nf := fun _ _ z => nomatch z
  nx := fun _ z => nomatch z
theorem lk_of {o o' : Ob} (e : lkO o = some o') (q : RepO K mg r H o ad) : ∃ u, H ad = some u ∧ Lk K mg o o' u := by
  cases o with
  | dic kvs => cases e; obtain ⟨vs, q, t⟩ := q; exact ⟨_, q, lk_dic t q⟩
  | dit kvs => cases e; obtain ⟨vs, q, t⟩ := q; exact ⟨_, q, lk_dit t q⟩
  | _ => cases e
theorem RepO.unl {o : Ob} {a b : Addr} {od : Obj} {u : HO} (hu : H a = Option.some (.frz od u)) (nt : ∀ xs, u ≠ .tup xs) (hl : ∀ xs, u ≠ .lst xs) (hb : uq o = true → b ≠ a) (q : RepO K mg r H o b) : RepO K mg r (upd H a u) o b := by
  cases o with
  | lst xs => obtain ⟨vs, q, t⟩ := q; exact ⟨vs, by rw [upd_ne (hb rfl)]; exact q, t.unl hu nt⟩
  | dic kvs => obtain ⟨vs, q, t⟩ := q; exact ⟨vs, by rw [upd_ne (hb rfl)]; exact q, t.unl hu nt⟩
  | rdl xs =>
    obtain ⟨vs, q, t⟩ := q
    refine ⟨vs, ?_, t.unl hu nt⟩
    rcases q with ⟨ob, q⟩ | q
    · exact .inl ⟨ob, by rw [upd_ne (ne_of q hu (fun z => by injection z with z1 z2; exact hl _ z2.symm))]; exact q⟩
    · exact .inr q
  | ins c fs => obtain ⟨C, dx, vs, q1, q, t⟩ := q; exact ⟨C, dx, vs, q1, by rw [upd_ne (hb rfl)]; exact q, t.unl hu nt⟩
  | dit kvs => obtain ⟨vs, q, t⟩ := q; exact ⟨vs, by rw [upd_ne (hb rfl)]; exact q, t.unl hu nt⟩
  | rdd kvs => obtain ⟨od, vs, q, t⟩ := q; exact ⟨od, vs, by rw [upd_ne (hb rfl)]; exact q, t.unl hu nt⟩
  | rdt kvs => obtain ⟨od, vs, q, t⟩ := q; exact ⟨od, vs, by rw [upd_ne (hb rfl)]; exact q, t.unl hu nt⟩
theorem Lk.nl {o o' : Ob} {u : HO} (L : Lk K mg o o' u) (q : RepO K mg r H o ad) (hu : H ad = some u) (e : lkO o = some o') : ∀ xs, u ≠ .lst xs := by
  intro xs z
  subst z
  cases o with
  | dic kvs => obtain ⟨vs, q, t⟩ := q; rw [hu] at q; cases q
  | dit kvs => obtain ⟨vs, q, t⟩ := q; rw [hu] at q; cases q
  | _ => cases e
theorem Rep.lock {o o' : Ob} {u : HO} {od : Obj} (R : Rep K mg r h H) (eh : h[n]? = some o) (ea : r[n]? = some ad) (hu : H ad = some u) (L : Lk K mg o o' u) : Rep K mg r (h.set n o') (upd H ad (.frz od u)) ∧ Keep H (upd H ad (.frz od u)) := by
  have k : Keep H (upd H ad (.frz od u)) := Keep.mut hu L.nt L.nf L.nx
  refine ⟨⟨by simp [R.len], fun j o2 b e1 e2 => ?_, fun j l b oj ol e1 e2 m1 m2 e3 e4 => ?_⟩, k⟩
  · rcases get_set e1 with ⟨e1, e5⟩ | ⟨ne, e1⟩
    · subst e1 e5
      rw [ea] at e2; cases e2
      exact L.lock r H ad od hu (R.obs _ _ _ eh ea)
    · refine (R.obs j o2 b e1 e2).mono (Ext.refl r) k fun m2 => ?_
      rw [upd_ne (fun z => by subst z; exact ne (R.inj n j b o o2 eh e1 L.uq1 (mu_uq m2) ea e2))]
  · have f : ∀ {j : Nat} {oj : Ob}, (h.set n o')[j]? = some oj → uq oj = true → ∃ o2, h[j]? = some o2 ∧ uq o2 = true := fun {j oj} e1 m1 => by
      rcases get_set e1 with ⟨e1, _⟩ | ⟨_, e1⟩
      · subst e1; exact ⟨o, eh, L.uq1⟩
      · exact ⟨oj, e1, m1⟩
    obtain ⟨a1, b1, c1⟩ := f e1 m1
    obtain ⟨a2, b2, c2⟩ := f e2 m2
    exact R.inj j l b a1 a2 b1 b2 c1 c2 e3 e4
theorem Rep.unlock {o o' : Ob} {u : HO} {od : Obj} {r0 : List Addr} {H0 : Hp} {h0 : HP} (R0 : Rep K mg r0 h0 H0) (e0 : h0[n]? = some o') (ea0 : r0[n]? = some ad) (hu0 : H0 ad = some (.frz od u)) (L : Lk K mg o o' u) (hl : ∀ xs, u ≠ .lst xs)
    (x : Ext r0 r) (k : Keep H0 H) (R : Rep K mg r h H) (eh : h[n]? = some o') : Rep K mg r (h.set n o) (upd H ad u) := by
  have ea := x.get ea0
  have hu : H ad = some (.frz od u) := k.frz _ _ _ hu0
  refine ⟨by simp [R.len], fun j o2 b e1 e2 => ?_, fun j l b oj ol e1 e2 m1 m2 e3 e4 => ?_⟩
  · rcases get_set e1 with ⟨e1, e5⟩ | ⟨ne, e1⟩
    · subst e1 e5
      rw [ea] at e2; cases e2
      exact L.back r0 H0 r H ad od x k hu0 (R0.obs _ _ _ e0 ea0) hu
    · exact (R.obs j o2 b e1 e2).unl hu L.nt hl fun m2 z => by subst z; exact ne (R.inj n j b o' o2 eh e1 L.uq2 m2 ea e2)
  · have f : ∀ {j : Nat} {oj : Ob}, (h.set n o)[j]? = some oj → uq oj = true → ∃ o2, h[j]? = some o2 ∧ uq o2 = true := fun {j oj} e1 m1 => by
      rcases get_set e1 with ⟨e1, _⟩ | ⟨_, e1⟩
      · subst e1; exact ⟨o', eh, L.uq2⟩
      · exact ⟨oj, e1, m1⟩
    obtain ⟨a1, b1, c1⟩ := f e1 m1
    obtain ⟨a2, b2, c2⟩ := f e2 m2
    exact R.inj j l b a1 a2 b1 b2 c1 c2 e3 e4
theorem Keep.unl {H0 : Hp} {u : HO} {od : Obj} {a : Addr} (hu : H0 a = some u) (nt : ∀ xs, u ≠ .tup xs) (nf : ∀ ob v, u ≠ .frz ob v) (nx : ∀ fs, u ≠ .xd fs) (k : Keep (upd H0 a (.frz od u)) H) : Keep H0 (upd H a u) := by
  have g : ∀ b o, H0 b = some o → b ≠ a → (upd H0 a (.frz od u)) b = some o := fun b o e ne => by rw [upd_ne ne]; exact e
  refine ⟨fun b xs e => ?_, fun b ob v e => ?_, fun b fs e => ?_⟩
  · have ne : b ≠ a := fun z => by subst z; rw [hu] at e; exact nt _ (Option.some.inj e)
    rw [upd_ne ne]; exact k.tup b xs (g b _ e ne)
  · have ne : b ≠ a := fun z => by subst z; rw [hu] at e; exact nf _ _ (Option.some.inj e)
    rw [upd_ne ne]; exact k.frz b ob v (g b _ e ne)
  · have ne : b ≠ a := fun z => by subst z; rw [hu] at e; exact nx _ (Option.some.inj e)
    rw [upd_ne ne]; exact k.xd b fs (g b _ e ne)
theorem RelSt.unl {s : SD} {σ : L2.St} {od : Obj} {u : HO} {a : Addr} (hu : H a = some (.frz od u)) (nt : ∀ xs, u ≠ .tup xs) (q : RelSt K mg r H s σ) : RelSt K mg r (upd H a u) s σ :=
  ⟨q.len, fun i d e => let ⟨v, e1, e2⟩ := q.at' i d e; ⟨v, e1, e2.unl hu nt⟩⟩
open Classical in
noncomputable def unlR (n : Nat) (o' o : Ob) (x : R D) : R D := match x with
  | .ok d h => if h[n]? = some o' then .ok d (h.set n o) else .bad
  | _ => .bad
open Classical in
noncomputable def unlS (n : Nat) (o' o : Ob) (x : RS) : RS := match x with
  | .nx s h => if h[n]? = some o' then .nx s (h.set n o) else .bad
  | .rt d h => if h[n]? = some o' then .rt d (h.set n o) else .bad
  | .bk s h => if h[n]? = some o' then .bk s (h.set n o) else .bad
  | .ct s h => if h[n]? = some o' then .ct s (h.set n o) else .bad
  | _ => .bad
/-- an expression while the dict in slot i is locked -/
noncomputable def mLockE (i : Nat) (a : ME) : ME := fun s h => match s[i]? with
  | some (some (.ref n)) => match (h[n]?).bind fun o => (lkO o).map fun o' => (o, o') with
    | some (o, o') => unlR n o' o (a s (h.set n o'))
    | none => .bad
  | _ => .bad
noncomputable def mLockS (i : Nat) (a : MS) : MS := fun s h => match s[i]? with
  | some (some (.ref n)) => match (h[n]?).bind fun o => (lkO o).map fun o' => (o, o') with
    | some (o, o') => unlS n o' o (a s (h.set n o'))
    | none => .bad
  | _ => .bad
theorem lk_in {o o' : Ob} (e : ((h[n]?).bind fun o => (lkO o).map fun o' => (o, o')) = some (o, o')) : h[n]? = some o ∧ lkO o = some o' := by
  obtain ⟨x, e1, e2⟩ := Option.bind_eq_some_iff.mp e
  obtain ⟨y, e3, e4⟩ := Option.map_eq_some_iff.mp e2
  cases e4
  exact ⟨e1, e3⟩
theorem set_at {h : HP} {n : Nat} {o o' : Ob} (e : h[n]? = some o) : (h.set n o')[n]? = some o' := by
  have hn : n < h.length := (List.getElem?_eq_some_iff.mp e).1
  rw [List.getElem?_set_self hn]
theorem qe_lock {i : Nat} {m : ME} (he : QE X W0 e m) : QE X W e (mLockE i m) := (pe_lock he).imp fun σ H Q ⟨r, s, h, rp, rs, p⟩ => by
  unfold mLockE at p
  split at p
  · rename_i n hs
    split at p
    · rename_i o o' ho
      obtain ⟨eh, el⟩ := lk_in ho
      obtain ⟨v, hv, rv⟩ := rs.at' _ _ hs
      cases rv with
      | @ref _ ad ea =>
        have q0 := rp.obs _ _ ad eh ea
        obtain ⟨u, hu, L⟩ := lk_of el q0
        have hl := L.nl q0 hu el
        refine ⟨ad, u, hu, L.mt, fun od => ?_⟩
        obtain ⟨rp1, k1⟩ := rp.lock (od := od) eh ea hu L
        refine ⟨r, s, h.set n o', rp1, rs.mono (Ext.refl _) k1, ?_⟩
        cases z : m s (h.set n o') with
        | ok d h2 =>
          rw [z] at p
          unfold unlR at p
          dsimp only at p
          intro r2 b H2 x2 k2 rp2 rl2
          by_cases hz : h2[n]? = some o'
          · rw [if_pos hz] at p
            have hu2 : H2 ad = some (.frz od u) := k2.frz _ _ _ upd_same
            have rp3 := rp1.unlock (set_at eh) ea upd_same L hl x2 k2 rp2 hz
            exact ⟨hu2, p r2 b _ x2 (Keep.unl hu L.nt L.nf L.nx k2) rp3 (RelD.unl hu2 L.nt rl2)⟩
          · rw [if_neg hz] at p; exact p.elim
        | exc c fs h2 => rw [z] at p; exact p.elim
        | bad => rw [z] at p; exact p.elim
    · exact p.elim
  · exact p.elim
theorem qs_lock {i : Nat} {st : Stmt} {m : MS} (he : QS X W0 st m) : QS X W st (mLockS i m) := (ps_lock he).imp fun D0 σ H ⟨r, s, h, rp, rs, p⟩ => by
  unfold mLockS at p
  split at p
  · rename_i n hs
    split at p
    · rename_i o o' ho
      obtain ⟨eh, el⟩ := lk_in ho
      obtain ⟨v, hv, rv⟩ := rs.at' _ _ hs
      cases rv with
      | @ref _ ad ea =>
        have q0 := rp.obs _ _ ad eh ea
        obtain ⟨u, hu, L⟩ := lk_of el q0
        have hl := L.nl q0 hu el
        refine ⟨ad, u, hu, L.mt, fun od => ?_⟩
        obtain ⟨rp1, k1⟩ := rp.lock (od := od) eh ea hu L
        refine ⟨r, s, h.set n o', rp1, rs.mono (Ext.refl _) k1, ?_⟩
        have go : ∀ {r2 : List Addr} {H2 : Hp} {h2 : HP}, Ext r r2 → Keep (upd H ad (.frz od u)) H2 → Rep X.K X.mg r2 h2 H2 → h2[n]? = some o' → H2 ad = some (.frz od u) ∧ Rep X.K X.mg r2 (h2.set n o) (upd H2 ad u) ∧ Keep H (upd H2 ad u) := fun {r2 H2 h2} x2 k2 rp2 hz =>
          ⟨k2.frz _ _ _ upd_same, rp1.unlock (set_at eh) ea upd_same L hl x2 k2 rp2 hz, Keep.unl hu L.nt L.nf L.nx k2⟩
        cases z : m s (h.set n o') with
        | nx s2 h2 =>
          rw [z] at p
          unfold unlS at p
          dsimp only at p
          intro r2 σ2 H2 x2 k2 rp2 rs2
          by_cases hz : h2[n]? = some o'
          · rw [if_pos hz] at p
            obtain ⟨g1, g2, g3⟩ := go x2 k2 rp2 hz
            exact ⟨g1, p r2 σ2 _ x2 g3 g2 (rs2.unl g1 L.nt)⟩
          · rw [if_neg hz] at p; exact p.elim
        | bk s2 h2 =>
          rw [z] at p
          unfold unlS at p
          dsimp only at p
          intro r2 σ2 H2 x2 k2 rp2 rs2
          by_cases hz : h2[n]? = some o'
          · rw [if_pos hz] at p
            obtain ⟨g1, g2, g3⟩ := go x2 k2 rp2 hz
            exact ⟨g1, p r2 σ2 _ x2 g3 g2 (rs2.unl g1 L.nt)⟩
          · rw [if_neg hz] at p; exact p.elim
        | ct s2 h2 =>
          rw [z] at p
          unfold unlS at p
          dsimp only at p
          intro r2 σ2 H2 x2 k2 rp2 rs2
          by_cases hz : h2[n]? = some o'
          · rw [if_pos hz] at p
            obtain ⟨g1, g2, g3⟩ := go x2 k2 rp2 hz
            exact ⟨g1, p r2 σ2 _ x2 g3 g2 (rs2.unl g1 L.nt)⟩
          · rw [if_neg hz] at p; exact p.elim
        | rt d h2 =>
          rw [z] at p
          unfold unlS at p
          dsimp only at p
          intro r2 v2 H2 x2 k2 rp2 rl2
          by_cases hz : h2[n]? = some o'
          · rw [if_pos hz] at p
            obtain ⟨g1, g2, g3⟩ := go x2 k2 rp2 hz
            exact ⟨g1, p r2 v2 _ x2 g3 g2 (rl2.unl g1 L.nt)⟩
          · rw [if_neg hz] at p; exact p.elim
        | exc s2 c fs h2 => rw [z] at p; exact p.elim
        | bad => rw [z] at p; exact p.elim
    · exact p.elim
  · exact p.elim
end
end PM
end
section
set_option Elab.async false
set_option linter.all false
set_option maxRecDepth 100000
set_option maxHeartbeats 1000000
namespace PM
open PySem PySem.Spec PyProof.Rows L2

/-! ### the names that a comprehension binds: one, or a tuple of them -/
inductive Tg where
  | one (i : Nat) | many (is : List Nat)
def Tg.slots : Tg → List Nat
  | .one i => [i]
  | .many is => is
def setAll : SD → List Nat → List D → SD
  | s, i :: is, d :: ds => setAll (s.set i (some d)) is ds
  | s, _, _ => s
def Tg.put (t : Tg) (d : D) (s : SD) : Option SD := match t with
  | .one i => some (s.set i (some d))
  | .many is => match d with
    | .tup ds => if ds.length = is.length then some (setAll s is ds) else none
    | .stp ds => if ds.length = is.length then some (setAll s is ds) else none
    | _ => none
def tgsOf : List Nat → TGs
  | [] => L2.gNil
  | i :: is => L2.gCons (gName i) (tgsOf is)
def Tg.tg (K : PySem.W.Frag) : Tg → TG
  | .one i => gName i
  | .many is => L2.gTup K is.length (tgsOf is)
def wipeD (s : SD) : List Nat → SD
  | [] => s
  | v :: vs => (wipeD s vs).set v none
section
variable {X : Cx} {K : PySem.W.Frag} {mg : Str → Option Value} {r : List Addr} {H : Hp} {h : HP} {W : WX} {a b c e o elt kx vx : Expr} {es rest : List Expr} {ma mb mc mk mv : ME} {t : MA} {pos pos' apos cpos : Pos}
theorem relSt_wipe {s : SD} {σ : L2.St} (q : RelSt K mg r H s σ) : ∀ vs : List Nat, RelSt K mg r H (wipeD s vs) (wipe σ vs)
  | [] => q
  | v :: vs => (relSt_wipe q vs).unset v
theorem wipe_in {σ : L2.St} {k : Nat} : ∀ {vs : List Nat}, k ∈ vs → (wipe σ vs)[k]? = if k < σ.length then some none else none
  | v :: vs, hk => by
    unfold wipe
    by_cases e : v = k
    · subst e
      by_cases hl : v < σ.length
      · rw [List.getElem?_set_self (by rw [wipe_length]; exact hl), if_pos hl]
      · rw [if_neg hl, List.getElem?_eq_none (by rw [List.length_set, wipe_length]; omega)]
    · rw [List.getElem?_set_ne e]
      exact wipe_in ((List.mem_cons.mp hk).resolve_left fun z => e z.symm)
theorem wipe_set {σ : L2.St} {i : Nat} {x : Option V} {vs : List Nat} (hi : i ∈ vs) : wipe (σ.set i x) vs = wipe σ vs := by
  apply List.ext_getElem?
  intro k
  by_cases hk : k ∈ vs
  · rw [wipe_in hk, wipe_in hk, List.length_set]
  · rw [wipe_out hk, wipe_out hk, List.getElem?_set_ne (fun z => hk (by rw [← z]; exact hi))]
theorem wipe_wipe {σ : L2.St} {vs : List Nat} : wipe (wipe σ vs) vs = wipe σ vs := by
  apply List.ext_getElem?
  intro k
  by_cases hk : k ∈ vs
  · rw [wipe_in hk, wipe_in hk, wipe_length]
  · rw [wipe_out hk]
theorem tgs_ok {σ0 : L2.St} {vs : List Nat} {Q : L2.St → Hp → Prop} : ∀ {is : List Nat} {ds : List D} {us : List V} {s : SD} {σ : L2.St}, (∀ i ∈ is, i ∈ vs) → ds.length = is.length → RelSt K mg r H s σ → RelDs K mg r H ds us → wipe σ vs = wipe σ0 vs →
    (∀ σ', RelSt K mg r H (setAll s is ds) σ' → wipe σ' vs = wipe σ0 vs → Q σ' H) → tgsOf is us σ H Q
  | [], [], _, s, σ, _, _, rs, .nil, hw, q => ⟨rfl, q σ rs hw⟩
  | i :: is, d :: ds, _, s, σ, hi, hl, rs, .cons rd rt, hw, q => ⟨_, _, rfl, tgs_ok (fun j hj => hi j (List.mem_cons_of_mem _ hj)) (by simpa using hl) (rs.set i rd) rt (by rw [wipe_set (hi i List.mem_cons_self)]; exact hw) q⟩
  | [], _ :: _, _, _, _, _, hl, _, _, _, _ => by cases hl
  | _ :: _, [], _, _, _, _, hl, _, _, _, _ => by cases hl
theorem tg_ok {t : Tg} {s s' : SD} {σ : L2.St} {d : D} {v : V} {Q : L2.St → Hp → Prop} (rs : RelSt K mg r H s σ) (rd : RelD K mg r H d v) (e : t.put d s = some s')
    (q : ∀ σ', RelSt K mg r H s' σ' → wipe σ' t.slots = wipe σ t.slots → Q σ' H) : t.tg K v σ H Q := by
  cases t with
  | one i =>
    cases e
    exact q _ (rs.set i rd) (wipe_set List.mem_cons_self)
  | many is =>
    unfold Tg.put at e
    cases rd with
    | @tup ds ad us sq rls =>
      dsimp only at e
      by_cases hz : ds.length = is.length
      · rw [if_pos hz] at e
        cases e
        exact ⟨ad, us, rfl, SqT.of sq, by rw [← rls.length]; exact hz, tgs_ok (fun _ h => h) hz rs rls rfl q⟩
      · rw [if_neg hz] at e; cases e
    | @stp ds ad us sq rls =>
      dsimp only at e
      by_cases hz : ds.length = is.length
      · rw [if_pos hz] at e
        cases e
        exact ⟨ad, us, rfl, sq.sq, by rw [← rls.length]; exact hz, tgs_ok (fun _ h => h) hz rs rls rfl q⟩
      · rw [if_neg hz] at e; cases e
    | _ => cases e

/-! ### the turns -/
open Classical in
noncomputable def cLoop {α : Type} (G : HP → Prop) (t : Tg) (c : MT) (el : SD → HP → R α) (put : α → HP → Option HP) (n : Nat) : List D → SD → HP → R D
  | [], _, h => if G h then .ok (.ref n) h else .bad
  | d :: ds, s, h => if G h then (match t.put d s with
    | some s1 => (match c s1 h with
      | .ok true h => (match el s1 h with
        | .ok y h => (match put y h with
          | some h => cLoop G t c el put n ds s h
          | none => .bad)
        | _ => .bad)
      | .ok false h => cLoop G t c el put n ds s h
      | _ => .bad)
    | none => .bad) else .bad
def putL (n : Nat) (y : D) (h : HP) : Option HP := match h[n]? with
  | some (.lst acc) => if acc.length < 1000000 then some (h.set n (.lst (acc ++ [y]))) else none
  | _ => none
noncomputable def mLcG (it : MI) (t : Tg) (c : MT) (el : ME) : ME := fun s h => (it s h).bind fun x h => cLoop x.2 t c el (putL h.length) h.length x.1 (wipeD s t.slots) (h ++ [.lst []])
def mPair (mk mv : ME) : SD → HP → R (D × D) := fun s h => (mk s h).bind fun k h => (mv s h).bind fun v h => .ok (k, v) h
noncomputable def mDc (o0 : Ob) (it : MI) (t : Tg) (c : MT) (mk mv : ME) : ME := fun s h => (it s h).bind fun x h => cLoop x.2 t c (mPair mk mv) (fun p h' => putD h.length p.1 p.2 h') h.length x.1 (wipeD s t.slots) (h ++ [o0])
/-- the turns of a comprehension, whatever it makes -/
theorem c_sem {α β : Type} {rr : RR α β} {J : It} {ds : List D} {G : HP → Prop} {t : Tg} {m : MT} {el : SD → HP → R α} {put : α → HP → Option HP} {ob : Ob} {u0 : HO} {s : SD} {σ : L2.St} {Q : VK} {h' : HP} {r0 : List Addr} {H0 : Hp} {Dl : Addr}
    {st : β → Hp → Hp → Prop}
    (hst : ∀ {r : List Addr} {h h1 : HP} {H : Hp} {y : α} {w : β}, Rep K mg r h H → r[h'.length]? = some Dl → rr.rel K mg r H y w → put y h = some h1 → ∃ H1, st w H H1 ∧ Keep H H1 ∧ Rep K mg r h1 H1)
    (rp0 : Rep K mg r0 h' H0) (rs : RelSt K mg r0 H0 s σ) (j : JRel K mg r0 H0 J ds G) (hn : H0 Dl = none) (rp1 : Rep K mg (r0 ++ [Dl]) (h' ++ [ob]) (upd H0 Dl u0))
    (p : Post K mg rD W r0 σ H0 Q (cLoop G t m el put h'.length ds (wipeD s t.slots) (h' ++ [ob]))) :
    ∃ W' : Nat → Nat → Hp → Prop, (∃ m, W' 0 m (upd H0 Dl u0)) ∧ ∀ i md H, W' i md H →
      (J.stop i H ∧ Q (.ref Dl) H) ∨ (J.go i H ∧ ∃ Nx : Hp → Prop, (∀ H', Nx H' → ∃ m', m' < md ∧ W' (i + 1) m' H') ∧ ∀ x H', J.yld i H x H' → t.tg K x (wipe σ t.slots) H' fun σ2 H2 => wipe σ2 t.slots = wipe σ t.slots ∧ tM K mg rB W0 m σ2 H2 fun b H3 =>
        if b = true then tM K mg rr W0 el σ2 H3 fun y H4 => ∃ H5, st y H4 H5 ∧ Nx H5 else Nx H3) := by
  have kn : Keep H0 (upd H0 Dl u0) := Keep.new hn
  have ea : (r0 ++ [Dl])[h'.length]? = some Dl := by rw [List.getElem?_append_right (by rw [rp0.len]; exact Nat.le_refl _), rp0.len]; simp
  have rs0 : RelSt K mg (r0 ++ [Dl]) (upd H0 Dl u0) (wipeD s t.slots) (wipe σ t.slots) := relSt_wipe (rs.mono (Ext.one r0 Dl) kn) _
  refine ⟨fun n md H => md = ds.length - n ∧ ∃ r h, Ext (r0 ++ [Dl]) r ∧ Keep (upd H0 Dl u0) H ∧ Rep K mg r h H ∧ RelSt K mg r H (wipeD s t.slots) (wipe σ t.slots) ∧ Post K mg rD W r σ H Q (cLoop G t m el put h'.length (ds.drop n) (wipeD s t.slots) h), ⟨ds.length, by simp, r0 ++ [Dl], h' ++ [ob], Ext.refl _, Keep.refl _, rp1, rs0, by simpa using Post.mono p (Ext.one r0 Dl) kn⟩, ?_⟩
  rintro n md H1 ⟨rfl, r1, h1, e1, k1, rp1, rs1, p1⟩
  rcases Nat.lt_or_ge n ds.length with hlt | hge
  · rw [List.drop_eq_getElem_cons hlt] at p1
    unfold cLoop at p1
    by_cases hG : G h1
    · rw [if_pos hG] at p1
      obtain ⟨j1, _⟩ := j n r1 H1 h1 ((Ext.one r0 Dl).trans e1) (kn.trans k1) rp1 hG
      obtain ⟨go, yl⟩ := j1 _ (List.getElem?_eq_getElem hlt)
      refine .inr ⟨go, fun H' => ∃ r h, Ext (r0 ++ [Dl]) r ∧ Keep (upd H0 Dl u0) H' ∧ Rep K mg r h H' ∧ RelSt K mg r H' (wipeD s t.slots) (wipe σ t.slots) ∧ Post K mg rD W r σ H' Q (cLoop G t m el put h'.length (ds.drop (n + 1)) (wipeD s t.slots) h), fun H' q => ⟨ds.length - (n + 1), by omega, rfl, q⟩, fun v H2 y2 => ?_⟩
      obtain ⟨k2, rp2, rl2⟩ := yl v H2 y2
      have rs2 := rs1.mono (Ext.refl _) k2
      have p2 := Post.mono p1 (Ext.refl _) k2
      cases zp : t.put ds[n] (wipeD s t.slots) with
      | none => rw [zp] at p2; exact p2.elim
      | some s1 =>
        rw [zp] at p2
        dsimp only at p2
        refine tg_ok rs2 rl2 zp fun σ3 rs3 hw3 => ⟨by rw [hw3, wipe_wipe], ?_⟩
        refine ⟨r1, s1, h1, rp2, rs3, ?_⟩
        cases zc : m s1 h1 with
        | exc c fs h3 => rw [zc] at p2; exact p2.elim
        | bad => rw [zc] at p2; exact p2.elim
        | ok bb h3 =>
          rw [zc] at p2
          intro r3 bb' H3 e3 k3 rp3 rlb
          obtain rfl : bb = bb' := rlb
          have p3 := Post.mono p2 e3 k3
          cases bb with
          | false => exact ⟨r3, h3, e1.trans e3, (k1.trans k2).trans k3, rp3, rs2.mono e3 k3, p3⟩
          | true =>
            refine ⟨r3, s1, h3, rp3, rs3.mono e3 k3, ?_⟩
            dsimp only at p3
            cases ze : el s1 h3 with
            | exc c fs h4 => rw [ze] at p3; exact p3.elim
            | bad => rw [ze] at p3; exact p3.elim
            | ok y h4 =>
              rw [ze] at p3
              intro r4 w H4 e4 k4 rp4 rly
              have p4 := Post.mono p3 e4 k4
              dsimp only at p4
              cases zq : put y h4 with
              | none => rw [zq] at p4; exact p4.elim
              | some h5 =>
                rw [zq] at p4
                obtain ⟨H5, g1, g2, g3⟩ := hst rp4 (e4.get (e3.get (e1.get ea))) rly zq
                exact ⟨H5, g1, r4, h5, (e1.trans e3).trans e4, (((k1.trans k2).trans k3).trans k4).trans g2, g3, ((rs2.mono e3 k3).mono e4 k4).mono (Ext.refl _) g2, Post.mono p4 (Ext.refl _) g2⟩
    · rw [if_neg hG] at p1; exact p1.elim
  · rw [List.drop_eq_nil_of_le hge] at p1
    unfold cLoop at p1
    by_cases hG : G h1
    · rw [if_pos hG] at p1
      exact .inl ⟨(j n r1 H1 h1 ((Ext.one r0 Dl).trans e1) (kn.trans k1) rp1 hG).2 hge, p1 r1 _ H1 (Ext.refl _) (Keep.refl _) rp1 (.ref (e1.get ea))⟩
    · rw [if_neg hG] at p1; exact p1.elim
theorem putL_ok {n : Nat} {r : List Addr} {h h1 : HP} {H : Hp} {y : D} {w : V} {Dl : Addr} (rp : Rep K mg r h H) (ea : r[n]? = some Dl) (ry : RelD K mg r H y w) (e : putL n y h = some h1) :
    ∃ H1, (∃ acc, H Dl = some (.lst acc) ∧ acc.length < sizeLine ∧ H1 = upd H Dl (.lst (acc ++ [w]))) ∧ Keep H H1 ∧ Rep K mg r h1 H1 := by
  unfold putL at e
  split at e
  · rename_i acc hacc
    by_cases hz : acc.length < 1000000
    · rw [if_pos hz] at e
      cases e
      obtain ⟨vs, qv, rlv⟩ := rp.obs _ _ Dl hacc ea
      have st := rp.set (u := .lst (vs ++ [w])) (o' := .lst (acc ++ [y])) hacc rfl rfl ea fun kp => ⟨_, upd_same, (rlv.mono (Ext.refl _) kp).append (.cons (RelD.mono (Ext.refl _) kp ry) .nil)⟩
      exact ⟨_, ⟨vs, qv, line_lt (by rw [← rlv.length]; exact hz), rfl⟩, st.2, st.1⟩
    · rw [if_neg hz] at e; cases e
  · cases e
/-- the list comprehension's reading -/
theorem lc_sem {mi : MI} {t : Tg} {m : MT} {σ : L2.St} {Q : VK} (q : tM K mg rD W (mLcG mi t m ma) σ H Q) : tLc (rIt K mg W mi) (t.tg K) (tM K mg rB W0 m) (tM K mg rD W0 ma) t.slots σ H Q := by
  obtain ⟨r, s, h, rp, rs, p⟩ := q
  refine ⟨r, s, h, rp, rs, ?_⟩
  unfold mLcG at p
  cases z : mi s h with
  | exc c fs h' => rw [z] at p; exact p
  | bad => rw [z] at p; exact p.elim
  | ok y h' =>
    rw [z] at p
    obtain ⟨ds, G⟩ := y
    have p : Post K mg rD W r σ H Q (cLoop G t m ma (putL h'.length) h'.length ds (wipeD s t.slots) (h' ++ [.lst []])) := p
    intro r0 H0 J e0 k0 rp0 j Dl hn
    obtain ⟨W', w0, tn⟩ := c_sem (rr := rD) (st := fun w H H1 => ∃ acc, H Dl = some (.lst acc) ∧ acc.length < sizeLine ∧ H1 = upd H Dl (.lst (acc ++ [w]))) (u0 := .lst []) (fun rp ea ry e => putL_ok rp ea ry e) rp0 (rs.mono e0 k0) j hn (rp0.new (o := .lst []) hn ⟨[], upd_same, .nil⟩) (Post.mono p e0 k0)
    refine ⟨W', w0, fun i md H1 w1 => ?_⟩
    rcases tn i md H1 w1 with q | ⟨go, Nx, n1, n2⟩
    · exact .inl q
    · refine .inr ⟨go, Nx, n1, fun x H' y => ?_⟩
      have g := n2 x H' y
      have cv : ∀ {σ2 : L2.St} {H2 : Hp}, (wipe σ2 t.slots = wipe σ t.slots ∧ tM K mg rB W0 m σ2 H2 fun b H3 => if b = true then tM K mg rD W0 ma σ2 H3 fun y H4 => ∃ H5, (∃ acc, H4 Dl = some (.lst acc) ∧ acc.length < sizeLine ∧ H5 = upd H4 Dl (.lst (acc ++ [y]))) ∧ Nx H5 else Nx H3) →
          wipe σ2 t.slots = wipe σ t.slots ∧ tM K mg rB W0 m σ2 H2 fun b H3 => if b = true then tM K mg rD W0 ma σ2 H3 fun y H4 => ∃ acc, H4 Dl = some (.lst acc) ∧ acc.length < sizeLine ∧ Nx (upd H4 Dl (.lst (acc ++ [y]))) else Nx H3 := fun ⟨z1, r, s, h, z2, z3, z4⟩ => ⟨z1, r, s, h, z2, z3, z4.imp fun b H3 z5 => by
        cases b with
        | false => exact z5
        | true =>
          obtain ⟨r, s, h, y1, y2, y3⟩ := z5
          exact ⟨r, s, h, y1, y2, y3.imp fun w H4 ⟨H5, ⟨acc, g1, g2, g3⟩, g4⟩ => ⟨acc, g1, g2, by rw [← g3]; exact g4⟩⟩⟩
      have mono : ∀ {Q1 Q2 : L2.St → Hp → Prop} {x : V} {σ1 : L2.St} {H1 : Hp}, (∀ σ H, Q1 σ H → Q2 σ H) → t.tg K x σ1 H1 Q1 → t.tg K x σ1 H1 Q2 := by
        intro Q1 Q2 x σ1 H1 hq g
        cases t with
        | one i => exact hq _ _ g
        | many is =>
          obtain ⟨a, xs, g1, g2, g3, g4⟩ := g
          refine ⟨a, xs, g1, g2, g3, ?_⟩
          clear g3 cv n2
          have go2 : ∀ (is : List Nat) (xs : List V) (σ1 : L2.St), tgsOf is xs σ1 H1 Q1 → tgsOf is xs σ1 H1 Q2 := by
            intro is
            induction is with
            | nil => intro xs σ1 ⟨z1, z2⟩; exact ⟨z1, hq _ _ z2⟩
            | cons i is ih => intro xs σ1 ⟨v, rr, z1, z2⟩; exact ⟨v, rr, z1, ih _ _ z2⟩
          exact go2 is xs σ1 g4
      exact mono (fun _ _ => cv) g
theorem qe_lcG {tg iter : Expr} {ifs : List Expr} {scope : Scope} {own : List (Str × Nat)} {mi : MI} {m : MT} (t : Tg) (hc : X.calm = true) (hN : X.N.Nodup) (hi : QI X W tg iter mi) (ok : BlkOk X.N X.env.scope scope own) (ho : own.map (·.2) = t.slots)
    (hg : ∀ (s : Shared) (H : Hp) (C : Addr) (cl : List (Str × Addr)) (fp : List Addr), PG (X.blk s H scope (compEnvC scope cl C X.env) fp) tg (t.tg X.K)) (ht : ∀ (s : Shared) (H : Hp) (C : Addr) (cl : List (Str × Addr)) (fp : List Addr), QTs (X.blk s H scope (compEnvC scope cl C X.env) fp) ifs m)
    (he : ∀ (s : Shared) (H : Hp) (C : Addr) (cl : List (Str × Addr)) (fp : List Addr), QE (X.blk s H scope (compEnvC scope cl C X.env) fp) W0 elt ma) (hs : ∀ x, foldedSetIterable iter X.env x = pure x := by intro _; rfl) :
    QE X W (.ListComp elt [⟨tg, iter, ifs, 0⟩] scope pos) (mLcG mi t m ma) := (pe_lc (own := own) (tt := tM X.K X.mg rB W0 m) (te := tM X.K X.mg rD W0 ma) hc hN hi ok hg ht he hs).imp fun σ H Q q => by
  rw [ho]; exact lc_sem q
theorem qs_setLcG {i : Nat} {y : Str} {py spos : Pos} {tg iter : Expr} {ifs : List Expr} {scope : Scope} {own : List (Str × Nat)} {mi : MI} {m : MT} (t : Tg) (hc : X.calm = true) (hN : X.N.Nodup) (hy : X.N[i]? = some y) (hyl : X.env.scope.names.lookup y = some .local)
    (hsw : swapsWith (.ListComp elt [⟨tg, iter, ifs, 0⟩] scope pos) (some (.Name y py)) spos.line X.env = pure true) (hi : QI X W tg iter mi) (ok : BlkOk X.N X.env.scope scope own) (ho : own.map (·.2) = t.slots)
    (hg : ∀ (s : Shared) (H : Hp) (C : Addr) (cl : List (Str × Addr)) (fp : List Addr), PG (X.blk s H scope (compEnvC scope cl C X.env) fp) tg (t.tg X.K)) (ht : ∀ (s : Shared) (H : Hp) (C : Addr) (cl : List (Str × Addr)) (fp : List Addr), QTs (X.blk s H scope (compEnvC scope cl C X.env) fp) ifs m)
    (he : ∀ (s : Shared) (H : Hp) (C : Addr) (cl : List (Str × Addr)) (fp : List Addr), QE (X.blk s H scope (compEnvC scope cl C X.env) fp) W0 elt ma) (hs : ∀ x, foldedSetIterable iter X.env x = pure x := by intro _; rfl) :
    QS X W (.Assign [.Name y py] (.ListComp elt [⟨tg, iter, ifs, 0⟩] scope pos) spos) (mSet i (mLcG mi t m ma)) := (ps_setLc (own := own) (tt := tM X.K X.mg rB W0 m) (te := tM X.K X.mg rD W0 ma) hc hN hy hyl hsw hi ok hg ht he hs).imp fun D0 σ H q => by
  rw [ho]
  refine lc_sem (Q := fun v H1 => gName i v σ H1 D0.nx) ?_
  obtain ⟨r, s, h, rp, rs, p⟩ := tS.ofE (rr := rD) (m := mLcG mi t m ma) (k := fun s d h => RS.nx (s.set i (some d)) h) q
  exact ⟨r, s, h, rp, rs, p.imp fun v H1 ⟨r1, s1, d, h1, rp1, rs1, rl1, p1⟩ => p1.here rp1 (rs1.set i rl1)⟩
end
end PM
end
section
set_option Elab.async false
set_option linter.all false
set_option maxRecDepth 100000
set_option maxHeartbeats 2000000
namespace PM
open PySem PySem.Spec PyProof.Rows L2

/-! ### dict comprehensions, keys of either kind -/
/-- the empty dict of a kind -/
def dE (tk : Bool) : HO := if tk then .dT [] else .dK []
def dEo (tk : Bool) : Ob := if tk then .dit [] else .dic []
theorem dE_ok {P : Program} {w : World} {H : Hp} (tk : Bool) (h : Heap) (hb : sysModules < h.objs.size) : ObjOk P w H (h.push { cls := .type "dict", data := .dict #[] }) h.objs.size (dE tk) := by
  cases tk with
  | true => exact dt_empty h hb
  | false => exact dk_empty h hb
section
variable {X : Cx} {K : PySem.W.Frag} {mg : Str → Option Value} {r : List Addr} {H : Hp} {h : HP} {W : WX} {kx vx tg iter : Expr} {ifs : List Expr} {scope : Scope} {own : List (Str × Nat)} {mk mv : ME} {pos : Pos}
/-- one entry is stored by the comprehension -/
theorem d_setC {pins : List (Addr × Obj)} {σ : L2.St} {s : Shared} {E : Value → Shared → Prop} {D : Addr} {y v : V} {H' : Hp} {u rr : Value} {Q : Unit → Shared → Prop} (hu : X.A.units + 1 < cLine) (I : Inv X pins σ H s) (g : DPut H D y v H') (ry : RelV y u) (rv : RelV v rr)
    (hQ : ∀ s', Inv X pins σ H' s' → Q () s') : wpAny (model X.prog X.w) X.A (dictSet D u rr) Q E s := by
  rcases g with ⟨kvs, k, hD, ey, hz, eH⟩ | ⟨kvs, k, b, hD, ey, eb, hz, eH⟩
  · subst ey eH
    exact d_dictSet I hD hz ry rv hQ
  · subst ey eH
    obtain rfl : u = Value.ref b := ry
    obtain ⟨z, hsm, xs, rel, dd⟩ := dt_of I.hok hD
    have hz1 : xs.length ≤ sizeLine := by rw [← Paired.length rel]; exact z
    have hl : (putK kvs k v).length ≤ sizeLine := by have := length_putK kvs k v; omega
    refine wpAny_dictSet_heap (hsz := hz1) (show X.A.units < cLine by omega) (key_of I.hok eb) dd fun h' dd' hs => hQ _ ?_
    obtain ⟨q, es, ep, hq, g2, g3, g4, _, g5⟩ := dd'
    refine d_write I (by rw [hD]; exact True.intro) hs ⟨q, hq⟩ ⟨hl, hsm, _, (rel.put k eb rv).keeps fun c ys ec => ?_, q, es, ep, hq, g2, g3, g4, g5⟩
    rw [upd_ne (ne_of ec hD (fun z => nomatch z))]
    exact ec
/-- the reading: the walk, the condition, key and value, the entry -/
def tDcT (tk : Bool) (wi : TI) (g : TG) (tt : TT) (te : L2.St → Hp → (V × V → Hp → Prop) → Prop) (vs : List Nat) : TE := fun σ H Q => wi σ H fun J H1 => ∀ D, H1 D = none → ∃ W : Nat → Nat → Hp → Prop, (∃ m, W 0 m (upd H1 D (dE tk))) ∧ ∀ i m H, W i m H →
  (J.stop i H ∧ Q (.ref D) H) ∨ (J.go i H ∧ ∃ Nx : Hp → Prop, (∀ H', Nx H' → ∃ m', m' < m ∧ W (i + 1) m' H') ∧ ∀ x H', J.yld i H x H' → g x (wipe σ vs) H' fun σ2 H2 => wipe σ2 vs = wipe σ vs ∧ tt σ2 H2 fun b H3 =>
    if b = true then te σ2 H3 fun p H4 => ∃ H5, DPut H4 D p.1 p.2 H5 ∧ Nx H5 else Nx H3)
/-- key and value, one after the other -/
def tKV (tk tv : TE) : L2.St → Hp → (V × V → Hp → Prop) → Prop := fun σ H Q => tk σ H fun y H1 => tv σ H1 fun z H2 => Q (y, z) H2
theorem dcT_core {pins : List (Addr × Obj)} {s : Shared} {σ : L2.St} {Q : VK} {pos' : Pos} {wi : TI} {g : TG} {tt : TT} {tk tv : TE} {use : Option (Value → Sem Unit)} {Qf : Value → Shared → Prop} (bk : Bool) (hu : X.A.units + 1 < cLine)
    (hcalm : X.calm = true) (hnd : X.N.Nodup) (I : Inv X pins σ H s) (hwalk : PI X tg iter wi) (blk : BlkOk X.N X.env.scope scope own)
    (hgt : ∀ s H C cl fp, PG (X.blk s H scope (compEnvC scope cl C X.env) fp) tg g) (hif : ∀ s H C cl fp, PTs (X.blk s H scope (compEnvC scope cl C X.env) fp) ifs tt)
    (hkx : ∀ s H C cl fp, PE (X.blk s H scope (compEnvC scope cl C X.env) fp) kx tk) (hvx : ∀ s H C cl fp, PE (X.blk s H scope (compEnvC scope cl C X.env) fp) vx tv) (hfold : ∀ x, foldedSetIterable iter X.env x = pure x)
    (q0 : tDcT bk wi g tt (tKV tk tv) (own.map (·.2)) σ H Q)
    (hend : ∀ D C s' m H', Inv X pins σ H' s' → Q (.ref D) H' → s'.heap.Ns C m → FpOk X pins H' C → compPost (model X.prog X.w) X.A X.xe use Qf (.ref D) C (.ok .next) s') :
    wpAny (model X.prog X.w) X.A (comprehension (.DictComp kx vx [⟨tg, iter, ifs, 0⟩] scope pos) scope X.env pos' newDict false (eval iter X.env) use) Qf X.xe s := by
  have free : ∀ y ∈ scope.names, y.2 = .free → ∃ c, X.env.cells.lookup y.1 = some c := fun y hy e => (blk.free y hy e).elim (fun z => I.ok.has _ (.inl z)) fun z => I.ok.has _ (.inr z)
  refine wpAny_comprehension_free (use := use) rfl hfold (closure_ok free) blk.kind (fun y hy e => (blk.uniq y hy).trans (congrArg some e)) (thn (hwalk.run pins s σ H _ I q0) fun xv sA hx => thn hx fun itv sB hB => ?_)
  obtain ⟨it, fp, tn, J, HB, rfl, IB, T, tB, fB, q⟩ := hB
  refine wpAny_newObj_type (newEnv_comp ?_)
  -- the new dict, at the heap's end
  have nD : HB sB.heap.objs.size = none := IB.hok.fresh (Nat.le_refl _)
  obtain ⟨Wl, ⟨m0, w0⟩, turns⟩ := q _ nD
  have IC0 : Inv X pins σ (upd HB sB.heap.objs.size (dE bk)) { sB with heap := sB.heap.push { cls := .type "dict", data := .dict #[] } } := IB.laid (t' := sB.toks) (fun b o e => Heap.get?_push_of_some _ e) (Nat.le_refl _) (dE_ok bk sB.heap IB.big)
  have ltB : ∀ b ∈ fp, b < sB.heap.objs.size := fun b hb => let ⟨_, e, _⟩ := T.obj _ _ tB b hb; Heap.lt_size e
  have neB : ∀ b ∈ fp, b ≠ sB.heap.objs.size := fun b hb => Nat.ne_of_lt (ltB b hb)
  have tC0 : tn 0 (sB.heap.push { cls := .type "dict", data := .dict #[] }) := T.keep _ _ _ tB fun b _ o e => Heap.get?_push_of_some _ e
  have szC : (sB.heap.push { cls := .type "dict", data := .dict #[] }).objs.size = sB.heap.objs.size + 1 := Heap.size_push _ _
  revert IC0 tC0 szC
  generalize hHC : upd HB sB.heap.objs.size (dE bk) = HC at w0
  generalize hDD : sB.heap.objs.size = DD at nD turns ltB neB hHC
  generalize hsC : ({ sB with heap := sB.heap.push { cls := .type "dict", data := .dict #[] } } : Shared) = sC
  have hC : sB.heap.push { cls := .type "dict", data := .dict #[] } = sC.heap := by rw [← hsC]
  rw [hC]
  intro IC tC szC
  have fC : ∀ b ∈ fp, FpOk X pins HC b ∧ b < sC.heap.objs.size := fun b hb => by
    refine ⟨⟨?_, (fB b hb).2⟩, by rw [szC]; exact Nat.lt_succ_of_lt (ltB b hb)⟩
    rw [← hHC, upd_ne (neB b hb)]
    exact (fB b hb).1
  have ID := block_start IC blk hnd fC
  have g1 := hgt sC HC sC.heap.objs.size (cellsFrom (sC.heap.objs.size + 1) scope.names (cloFrom X.env.cells scope.names [])) fp
  have g2 := hif sC HC sC.heap.objs.size (cellsFrom (sC.heap.objs.size + 1) scope.names (cloFrom X.env.cells scope.names [])) fp
  have g3 := hkx sC HC sC.heap.objs.size (cellsFrom (sC.heap.objs.size + 1) scope.names (cloFrom X.env.cells scope.names [])) fp
  have g4 := hvx sC HC sC.heap.objs.size (cellsFrom (sC.heap.objs.size + 1) scope.names (cloFrom X.env.cells scope.names [])) fp
  have huB : (X.blk sC HC scope (compEnvC scope (cellsFrom (sC.heap.objs.size + 1) scope.names (cloFrom X.env.cells scope.names [])) sC.heap.objs.size X.env) fp).A.units + 1 < cLine := hu
  show codeAny _ _ (.compStart _ 0 (.ref it) (.ref DD) (compEnvC scope (cellsFrom (sC.heap.objs.size + 1) scope.names (cloFrom X.env.cells scope.names [])) sC.heap.objs.size X.env)) (compPost _ X.A X.xe use Qf (.ref DD) sC.heap.objs.size) { sC with heap := pushCells (sC.heap.push { cls := .type "dict", data := .dict #[] }) scope.names }
  have hcl : (compEnvC scope (cellsFrom (sC.heap.objs.size + 1) scope.names (cloFrom X.env.cells scope.names [])) sC.heap.objs.size X.env).locals = sC.heap.objs.size := rfl
  revert ID g1 g2 g3 g4 huB hcl
  generalize compEnvC scope (cellsFrom (sC.heap.objs.size + 1) scope.names (cloFrom X.env.cells scope.names [])) sC.heap.objs.size X.env = env2
  intro ID g1 g2 g3 g4 huB hcl
  have tD : tn 0 ({ sC with heap := pushCells (sC.heap.push { cls := .type "dict", data := .dict #[] }) scope.names } : Shared).heap := T.keep _ _ _ tC fun b _ o e => pushCells_keeps _ _ _ _ (Heap.get?_push_of_some _ e)
  revert ID tD
  generalize ({ sC with heap := pushCells (sC.heap.push { cls := .type "dict", data := .dict #[] }) scope.names } : Shared) = sD
  intro ID tD
  have emp : ∀ b ∈ fp, HC b = none := fun b hb => (fC b hb).1.1
  -- the walk's own objects stand apart in the block, too
  have apart : ∀ {σ' : L2.St} {H' : Hp} {s' : Shared}, Inv (X.blk sC HC scope env2 fp) [] σ' H' s' → (∀ b ∈ fp, H' b = none) → ∀ b ∈ fp, FpOk (X.blk sC HC scope env2 fp) [] H' b := fun {σ' H' s'} J hz b hb => by
    obtain ⟨x1, x2⟩ := J.ok.exf b hb
    exact ⟨hz b hb, x1, J.ok.exfs b hb, .inl hb, fun x c e => x2 x c e, fun p hp => absurd hp (by show ¬ p ∈ ([] : List (Addr × Obj)) ++ []; simp)⟩
  have loop : codeAny (model X.prog X.w) X.A (.compLoop (.DictComp kx vx [⟨tg, iter, ifs, 0⟩] scope pos) 0 (.ref it) (.ref DD) env2) (compPost (model X.prog X.w) X.A X.xe use Qf (.ref DD) sC.heap.objs.size) sD := by
    refine compLoop_anyD (fun n s' => ∃ i H', Inv (X.blk sC HC scope env2 fp) [] (wipe σ (own.map (·.2))) H' s' ∧ tn i s'.heap ∧ (∀ b ∈ fp, H' b = none) ∧ Wl i n H') ?_ m0 ⟨0, HC, ID, tD, emp, w0⟩
    rintro n sE ⟨i, HE, IE, tE, nE, wE⟩
    rcases turns i n HE wE with ⟨stop, qE⟩ | ⟨go, Nx, hNx, turn⟩
    · refine thnF (T.done (X.blk sC HC scope env2 fp) rfl rfl rfl hcalm i [] sE _ HE (fun _ _ => False) IE (apart IE nE) tE stop) fun rr sF ⟨hr, IF⟩ => ?_
      subst hr
      have IG : Inv X pins σ HE sF := IC.call' (ch := fp) IF.os IF.base IF.hok IF.bare fun b hb => by
        obtain ⟨_, y1, _, y3, y4, y5⟩ := (fC b hb).1
        exact ⟨y3, y1, y4, y5⟩
      have nC : HE sC.heap.objs.size = none := by rw [← hcl]; exact IF.free
      obtain ⟨mN, hN, _⟩ := IF.loc
      exact hend DD sC.heap.objs.size sF mN HE IG qE (by rw [← hcl]; exact hN) (IC.fpOk (Nat.le_refl _) nC)
    · refine thnF (T.item (X.blk sC HC scope env2 fp) rfl rfl rfl hcalm i [] sE _ HE (fun _ _ => False) IE (apart IE nE) tE go) fun rr sF ⟨u, hr, hF⟩ => ?_
      subst hr
      refine thnF hF fun _ sG ⟨x, HG, IG, rG, yG, tG, nG⟩ => ?_
      have pinsG := IG.pinned (apart IG nG) (T.obj _ _ tG)
      refine thnF (g1.run _ sG _ HG x u _ pinsG rG (turn x HG yG)) fun _ s1 ⟨σ1, H1, I1, w1, q1⟩ => ?_
      refine thnF (g2.run _ s1 σ1 H1 _ I1 q1) fun bb s2 ⟨H2, I2, q2⟩ => ?_
      have again : ∀ {s' : Shared} {H' : Hp}, Inv (X.blk sC HC scope env2 fp) ([] ++ pinsAt fp sG.heap) σ1 H' s' → Nx H' → ∃ m, m < n ∧ ∃ i H', Inv (X.blk sC HC scope env2 fp) [] (wipe σ (own.map (·.2))) H' s' ∧ tn i s'.heap ∧ (∀ b ∈ fp, H' b = none) ∧ Wl i m H' := fun {s' H'} J nx => by
        obtain ⟨m, hm, w'⟩ := hNx H' nx
        have held : ∀ b ∈ fp, ∀ ob, sG.heap.get? b = some ob → s'.heap.get? b = some ob ∧ H' b = none := fun b hb ob e => by
          obtain ⟨z1, z2, _⟩ := J.pin (b, ob) (List.mem_append_right _ (List.mem_append_right _ (mem_pinsAt hb e)))
          exact ⟨z1, z2⟩
        refine ⟨m, hm, i + 1, H', (J.unpinned (pins := [])).weak (by rw [← w1, wipe_length]) (fun j v e => (wipe_some (by rw [← w1] at e; exact e)).1), T.keep _ _ _ tG fun b hb ob e => (held b hb ob e).1, fun b hb => ?_, w'⟩
        obtain ⟨ob, e, _⟩ := T.obj _ _ tG b hb
        exact (held b hb ob e).2
      cases bb with
      | false => exact again I2 q2
      | true =>
        refine thnF (g3.run _ s2 σ1 H2 _ I2 q2) fun uk s3 ⟨yk, H3, I3, rk, q3⟩ => ?_
        refine thnF (g4.run _ s3 σ1 H3 _ I3 q3) fun uv s4 ⟨yv, H4, I4, rv, H5, dp, nx⟩ => ?_
        exact d_setC (X := X.blk sC HC scope env2 fp) huB I4 dp rk rv fun s5 I5 => again I5 nx
  exact codeAny_compStart_dict loop (T.self X.A 0 _ _ _ tD loop)
theorem pe_dcT {wi : TI} {g : TG} {tt : TT} {tk tv : TE} (bk : Bool) (hu : X.A.units + 1 < cLine) (hcalm : X.calm = true) (hnd : X.N.Nodup) (hwalk : PI X tg iter wi) (blk : BlkOk X.N X.env.scope scope own)
    (hgt : ∀ s H C cl fp, PG (X.blk s H scope (compEnvC scope cl C X.env) fp) tg g) (hif : ∀ s H C cl fp, PTs (X.blk s H scope (compEnvC scope cl C X.env) fp) ifs tt)
    (hkx : ∀ s H C cl fp, PE (X.blk s H scope (compEnvC scope cl C X.env) fp) kx tk) (hvx : ∀ s H C cl fp, PE (X.blk s H scope (compEnvC scope cl C X.env) fp) vx tv) (hfold : ∀ x, foldedSetIterable iter X.env x = pure x := by intro _; rfl) :
    PE X (.DictComp kx vx [⟨tg, iter, ifs, 0⟩] scope pos) (tDcT bk wi g tt (tKV tk tv) (own.map (·.2))) := by
  refine ⟨fun pins s σ H Q I q => ?_⟩
  rw [arm_eval_DictComp]
  refine dcT_core bk hu hcalm hnd I hwalk blk hgt hif hkx hvx hfold q fun D C s' m H' I' qe hn f => ⟨m, hn, fun h2 sb => ?_⟩
  obtain ⟨f0, f1, f2, f3, f4, f5⟩ := f
  exact ⟨.ref D, H', I'.turned (t' := s'.toks) (fun b ob hb e => (sb.2 b hb).trans e) f0 f1 f3 f4 f5, rfl, qe⟩
/-- name = {k: v for ..}, the name a local -/
theorem ps_setDcT {i : Nat} {y : Str} {py spos : Pos} {wi : TI} {g : TG} {tt : TT} {tk tv : TE} (bk : Bool) (hu : X.A.units + 1 < cLine) (hcalm : X.calm = true) (hnd : X.N.Nodup) (hy : X.N[i]? = some y) (hyl : X.env.scope.names.lookup y = some .local)
    (hsw : swapsWith (.DictComp kx vx [⟨tg, iter, ifs, 0⟩] scope pos) (some (.Name y py)) spos.line X.env = pure true) (hwalk : PI X tg iter wi) (blk : BlkOk X.N X.env.scope scope own)
    (hgt : ∀ s H C cl fp, PG (X.blk s H scope (compEnvC scope cl C X.env) fp) tg g) (hif : ∀ s H C cl fp, PTs (X.blk s H scope (compEnvC scope cl C X.env) fp) ifs tt)
    (hkx : ∀ s H C cl fp, PE (X.blk s H scope (compEnvC scope cl C X.env) fp) kx tk) (hvx : ∀ s H C cl fp, PE (X.blk s H scope (compEnvC scope cl C X.env) fp) vx tv) (hfold : ∀ x, foldedSetIterable iter X.env x = pure x := by intro _; rfl) :
    PS X (.Assign [.Name y py] (.DictComp kx vx [⟨tg, iter, ifs, 0⟩] scope pos) spos) (tAsg (tDcT bk wi g tt (tKV tk tv) (own.map (·.2))) (gName i)) := by
  refine ⟨fun pins s σ H D I q => ?_⟩
  rw [exec_Assign_Name_used _ _ _ _ hsw]
  have q : tDcT bk wi g tt (tKV tk tv) (own.map (·.2)) σ H (fun v H1 => gName i v σ H1 D.nx) := q
  refine wpAny_bind (wpAny_standAt (wpAny_bind ?_))
  show wpAny _ X.A (do let _ ← comprehension (.DictComp kx vx [⟨tg, iter, ifs, 0⟩] scope pos) scope X.env (firstIterPos [⟨tg, iter, ifs, 0⟩] pos) newDict false (eval iter X.env) (some (assign (.Name y py) X.env))) _ _ s
  refine wpAny_bind (thn (dcT_core (Qf := fun _ s' => SP X pins D .next s') bk hu hcalm hnd I hwalk blk hgt hif hkx hvx hfold q fun Dn C s' m H' I' qe hn f => ?_) fun _ s' z => wpAny_pure (wpAny_pure z))
  show wpAny _ _ (assign (.Name y py) X.env (.ref Dn)) _ _ _
  refine wpAny_assign_Name (store_ok2 (v := V.ref Dn) I' hnd hy (.inl hyl) rfl (fun s2 I2 ⟨a, sb, ha⟩ => ?_) (.inr hyl))
  obtain ⟨f0, f1, f2, f3, f4, f5⟩ := f
  have neC : C ≠ a := ha.elim (fun z => by rw [z]; exact f1) fun z e => f4 y a z e.symm
  exact ⟨m, hn.sameBut sb neC, fun h3 sb3 => ⟨_, H', I2.turned (t' := s2.toks) (fun b ob hb e => (sb3.2 b hb).trans e) f0 f1 f3 f4 f5, qe⟩⟩
/-! plain -/
theorem putD_n {n : Nat} {r : List Addr} {h h1 : HP} {H : Hp} {y : D × D} {w : V × V} {Dl : Addr} (rp : Rep K mg r h H) (ea : r[n]? = some Dl) (ry : RelD K mg r H y.1 w.1 ∧ RelD K mg r H y.2 w.2) (e : putD n y.1 y.2 h = some h1) :
    ∃ H1, DPut H Dl w.1 w.2 H1 ∧ Keep H H1 ∧ Rep K mg r h1 H1 := putD_ok rp ea ry.1 ry.2 e
def rDV : RR (D × D) (V × V) := ⟨fun K mg r H p q => RelD K mg r H p.1 q.1 ∧ RelD K mg r H p.2 q.2, fun e k h => ⟨h.1.mono e k, h.2.mono e k⟩⟩
theorem kv_sem {σ : L2.St} {Q : V × V → Hp → Prop} (q : tM K mg rDV W (mPair mk mv) σ H Q) : tKV (tM K mg rD W mk) (tM K mg rD W mv) σ H Q := by
  obtain ⟨r, s, h, rp, rs, p⟩ := tM.bind (rr1 := rD) (m := mk) (k := fun s k h => (mv s h).bind fun v h => .ok (k, v) h) q
  refine ⟨r, s, h, rp, rs, p.imp fun x H1 ⟨r1, s1, d, h1, rp1, rs1, rl1, p1⟩ => ⟨r1, s1, h1, rp1, rs1, (Post.bind (rr1 := rD) p1).imp fun y H2 ⟨r2, d2, h2, e2, k2, rp2, rl2, p2⟩ => ?_⟩⟩
  exact Post.here (rr := rDV) p2 rp2 ⟨rl1.mono e2 k2, rl2⟩
theorem tgs_mono {H1 : Hp} {Q1 Q2 : L2.St → Hp → Prop} (hq : ∀ σ H, Q1 σ H → Q2 σ H) : ∀ (is : List Nat) (xs : List V) (σ1 : L2.St), tgsOf is xs σ1 H1 Q1 → tgsOf is xs σ1 H1 Q2
  | [], xs, σ1, ⟨z1, z2⟩ => ⟨z1, hq _ _ z2⟩
  | i :: is, xs, σ1, ⟨v, rr, z1, z2⟩ => ⟨v, rr, z1, tgs_mono hq is _ _ z2⟩
theorem tg_mono {t : Tg} {x : V} {σ1 : L2.St} {H1 : Hp} {Q1 Q2 : L2.St → Hp → Prop} (hq : ∀ σ H, Q1 σ H → Q2 σ H) (g : t.tg K x σ1 H1 Q1) : t.tg K x σ1 H1 Q2 := by
  cases t with
  | one i => exact hq _ _ g
  | many is =>
    obtain ⟨a, xs, g1, g2, g3, g4⟩ := g
    exact ⟨a, xs, g1, g2, g3, tgs_mono hq _ _ _ g4⟩
theorem dc_sem {bk : Bool} {mi : MI} {t : Tg} {m : MT} {σ : L2.St} {Q : VK} (q : tM K mg rD W (mDc (dEo bk) mi t m mk mv) σ H Q) : tDcT bk (rIt K mg W mi) (t.tg K) (tM K mg rB W0 m) (tKV (tM K mg rD W0 mk) (tM K mg rD W0 mv)) t.slots σ H Q := by
  obtain ⟨r, s, h, rp, rs, p⟩ := q
  refine ⟨r, s, h, rp, rs, ?_⟩
  unfold mDc at p
  cases z : mi s h with
  | exc c fs h' => rw [z] at p; exact p
  | bad => rw [z] at p; exact p.elim
  | ok y h' =>
    rw [z] at p
    obtain ⟨ds, G⟩ := y
    have p : Post K mg rD W r σ H Q (cLoop G t m (mPair mk mv) (fun p h2 => putD h'.length p.1 p.2 h2) h'.length ds (wipeD s t.slots) (h' ++ [dEo bk])) := p
    intro r0 H0 J e0 k0 rp0 j Dl hn
    have rpn : Rep K mg (r0 ++ [Dl]) (h' ++ [dEo bk]) (upd H0 Dl (dE bk)) := by
      cases bk with
      | true => exact rp0.new (o := .dit []) hn ⟨[], upd_same, .nil⟩
      | false => exact rp0.new (o := .dic []) hn ⟨[], upd_same, .nil⟩
    obtain ⟨W', w0, tn⟩ := c_sem (rr := rDV) (st := fun (w : V × V) H H1 => DPut H Dl w.1 w.2 H1) (u0 := dE bk) (fun rp ea ry e => putD_n rp ea ry e) rp0 (rs.mono e0 k0) j hn rpn (Post.mono p e0 k0)
    refine ⟨W', w0, fun i md H1 w1 => ?_⟩
    rcases tn i md H1 w1 with q | ⟨go, Nx, n1, n2⟩
    · exact .inl q
    · refine .inr ⟨go, Nx, n1, fun x H' y => tg_mono (fun σ2 H2 ⟨z1, r, s, h, z2, z3, z4⟩ => ⟨z1, r, s, h, z2, z3, z4.imp fun b H3 z5 => ?_⟩) (n2 x H' y)⟩
      cases b with
      | false => exact z5
      | true => exact kv_sem z5
theorem qe_dc {mi : MI} {m : MT} (t : Tg) (bk : Bool) (hu : X.A.units + 1 < cLine) (hc : X.calm = true) (hN : X.N.Nodup) (hi : QI X W tg iter mi) (ok : BlkOk X.N X.env.scope scope own) (ho : own.map (·.2) = t.slots)
    (hg : ∀ s H C cl fp, PG (X.blk s H scope (compEnvC scope cl C X.env) fp) tg (t.tg X.K)) (ht : ∀ s H C cl fp, QTs (X.blk s H scope (compEnvC scope cl C X.env) fp) ifs m)
    (hk : ∀ s H C cl fp, QE (X.blk s H scope (compEnvC scope cl C X.env) fp) W0 kx mk) (hv : ∀ s H C cl fp, QE (X.blk s H scope (compEnvC scope cl C X.env) fp) W0 vx mv) (hs : ∀ x, foldedSetIterable iter X.env x = pure x := by intro _; rfl) :
    QE X W (.DictComp kx vx [⟨tg, iter, ifs, 0⟩] scope pos) (mDc (dEo bk) mi t m mk mv) := (pe_dcT (own := own) (tt := tM X.K X.mg rB W0 m) (tk := tM X.K X.mg rD W0 mk) (tv := tM X.K X.mg rD W0 mv) bk hu hc hN hi ok hg ht hk hv hs).imp fun σ H Q q => by
  rw [ho]; exact dc_sem q
theorem qs_setDc {i : Nat} {y : Str} {py spos : Pos} {mi : MI} {m : MT} (t : Tg) (bk : Bool) (hu : X.A.units + 1 < cLine) (hc : X.calm = true) (hN : X.N.Nodup) (hy : X.N[i]? = some y) (hyl : X.env.scope.names.lookup y = some .local)
    (hsw : swapsWith (.DictComp kx vx [⟨tg, iter, ifs, 0⟩] scope pos) (some (.Name y py)) spos.line X.env = pure true) (hi : QI X W tg iter mi) (ok : BlkOk X.N X.env.scope scope own) (ho : own.map (·.2) = t.slots)
    (hg : ∀ s H C cl fp, PG (X.blk s H scope (compEnvC scope cl C X.env) fp) tg (t.tg X.K)) (ht : ∀ s H C cl fp, QTs (X.blk s H scope (compEnvC scope cl C X.env) fp) ifs m)
    (hk : ∀ s H C cl fp, QE (X.blk s H scope (compEnvC scope cl C X.env) fp) W0 kx mk) (hv : ∀ s H C cl fp, QE (X.blk s H scope (compEnvC scope cl C X.env) fp) W0 vx mv) (hs : ∀ x, foldedSetIterable iter X.env x = pure x := by intro _; rfl) :
    QS X W (.Assign [.Name y py] (.DictComp kx vx [⟨tg, iter, ifs, 0⟩] scope pos) spos) (mSet i (mDc (dEo bk) mi t m mk mv)) := (ps_setDcT (own := own) (tt := tM X.K X.mg rB W0 m) (tk := tM X.K X.mg rD W0 mk) (tv := tM X.K X.mg rD W0 mv) bk hu hc hN hy hyl hsw hi ok hg ht hk hv hs).imp fun D0 σ H q => by
  rw [ho]
  refine dc_sem (Q := fun v H1 => gName i v σ H1 D0.nx) ?_
  obtain ⟨r, s, h, rp, rs, p⟩ := tS.ofE (rr := rD) (m := mDc (dEo bk) mi t m mk mv) (k := fun s d h => RS.nx (s.set i (some d)) h) q
  exact ⟨r, s, h, rp, rs, p.imp fun v H1 ⟨r1, s1, d, h1, rp1, rs1, rl1, p1⟩ => p1.here rp1 (rs1.set i rl1)⟩
end
end PM
end
section
set_option Elab.async false
set_option linter.all false
set_option maxRecDepth 100000
set_option maxHeartbeats 2000000
namespace PM
open PySem PySem.Spec PyProof.Rows L2

section
variable {X : Cx} {K : PySem.W.Frag} {mg : Str → Option Value} {r : List Addr} {H : Hp} {h : HP} {W : WX} {e : Expr} {es : List Expr} {t : MA} {pos : Pos}

/-! ### all items at once -/
def collG (d : D) (h : HP) : Option (List D) := match d with
  | .ref i => match h[i]? with
    | some (.dic kvs) => some (kvs.map fun kv => kD kv.1)
    | some (.rdd kvs) => some (kvs.map fun kv => kD kv.1)
    | some (.dit kvs) => some (kvs.map fun kv => .tup (kv.1.map kD))
    | some (.rdt kvs) => some (kvs.map fun kv => .tup (kv.1.map kD))
    | _ => seqD d h
  | _ => seqD d h
theorem collect_tup {prog : Program} {w : World} {A : Around} {E : Value → Shared → Prop} {s : Shared} {l : Addr} {vs : List Value} {Q : List Value → Shared → Prop} (hl : IsTup s.heap l vs.toArray)
    (hQ : Q vs { s with heap := (s.heap.push (seqObj "list" #[] 0)).update s.heap.objs.size (Obj.mapSeq (· ++ vs.toArray)) }) (hsz : vs.length ≤ sizeLine) : wpAny (model prog w) A (collect (.ref l)) Q E s := by
  obtain ⟨o, ho, hc, n, hd⟩ := hl
  have ho' : (s.heap.push (seqObj "list" #[] 0)).get? l = some o := Heap.get?_push_of_some _ ho
  have hn : (s.heap.push (seqObj "list" #[] 0)).get? s.heap.objs.size = some (seqObj "list" #[] 0) := Heap.get?_push_size _ rfl
  unfold collect
  refine wpAny_bind (wpAny_runValue (codeAny_builtin entry_proto_collect' ?_))
  refine wpAny_bind (wpAny_newList (wpAny_pure ⟨Code.quiet_builtin _ (by decide +kernel), codeAny_builtin entry_list_iadd' ?_⟩))
  show wpAny _ _ (Builtin.List.listExtendWith (.ref s.heap.objs.size) (.ref l) (.ref s.heap.objs.size)) _ _ { s with heap := s.heap.push (seqObj "list" #[] 0) }
  unfold Builtin.List.listExtendWith
  refine wpAny_bind (wpAny_typeOf (T := "tuple") ⟨o, ho', hc⟩ ?_)
  rw [if_pos (by rw [show (Value.type "tuple" == Value.type "tuple") = true from rfl, Bool.or_true])]
  refine wpAny_bind (listItems_at ho' hd ?_)
  refine wpAny_bind (listItems_at (xs := #[]) (n := 0) hn rfl ?_)
  rw [if_neg (by simp)]
  refine wpAny_bind (listUpdate_at (xs := #[]) (n := 0) hn rfl ?_ (Nat.zero_le _) (by show (#[] ++ vs.toArray).size ≤ sizeLine + 1; simp only [Array.size_append, List.size_toArray, List.length_nil]; omega))
  refine wpAny_pure ?_
  show wpAny (model prog w) A ((load s.heap.objs.size) >>= fun o => match o.data with
      | .seq xs _ => pure xs.toList
      | _ => unsupported "internal:collect") Q E { s with heap := (s.heap.push (seqObj "list" #[] 0)).update s.heap.objs.size (Obj.mapSeq (· ++ vs.toArray)) }
  refine wpAny_bind (wpAny_load (get?_update_seq hn _) ?_)
  show wpAny _ _ (pure ((#[] : Array Value) ++ vs.toArray).toList) Q E _
  have ev : ((#[] : Array Value) ++ vs.toArray).toList = vs := by simp
  rw [ev]
  exact wpAny_pure hQ
theorem cop_old {h : Heap} {vs : Array Value} {b : Addr} {o : Obj} (q : h.get? b = some o) : ((h.push (seqObj "list" #[] 0)).update h.objs.size (Obj.mapSeq (· ++ vs))).get? b = some o := by
  rw [Heap.get?_update_ne _ _ _ _ (Nat.ne_of_lt (Heap.lt_size q))]
  exact Heap.get?_push_of_some _ q
theorem vals_of_items {ks : List Key} {acc : Array Value} (hl : acc.size = ks.length) (hi : ∀ (j : Nat) (v : Value), acc[j]? = some v → ∃ k, ks[j]? = some k ∧ RelV (kV k) v) : Vals (ks.map kV) acc.toList := by
  have go : ∀ (ks : List Key) (vs : List Value), vs.length = ks.length → (∀ (j : Nat) (v : Value), vs[j]? = some v → ∃ k, ks[j]? = some k ∧ RelV (kV k) v) → Vals (ks.map kV) vs := by
    intro ks
    induction ks with
    | nil => intro vs hl _; cases vs with
      | nil => exact .nil
      | cons _ _ => cases hl
    | cons k ks ih =>
      intro vs hl hi
      cases vs with
      | nil => cases hl
      | cons v vs =>
        obtain ⟨k', e1, e2⟩ := hi 0 v rfl
        cases e1
        exact .cons e2 (ih vs (by simpa using hl) fun j v e => hi (j + 1) v (by simpa using e))
  exact go ks acc.toList (by simpa using hl) fun j v e => hi j v (by rw [← Array.getElem?_toList]; exact e)
theorem collect_any {pins : List (Addr × Obj)} {s : Shared} {σ : L2.St} {E : Value → Shared → Prop} {A : Around} {d : D} {v : V} {u : Value} {xs : List D} {Q : List Value → Shared → Prop} (hh : A.handled = none) (I : Inv X pins σ H s) (rp : Rep X.K X.mg r h H) (rl : RelD X.K X.mg r H d v) (rv : RelV v u)
    (e : collG d h = some xs) (hQ : ∀ us vs h' tk, Inv X pins σ H { s with heap := h', toks := tk } → (∀ b o, s.heap.get? b = some o → h'.get? b = some o) → RelDs X.K X.mg r H xs vs → Vals vs us → us.length ≤ sizeLine → Q us { s with heap := h', toks := tk }) :
    wpAny (model X.prog X.w) A (collect u) Q E s := by
  have seq : seqD d h = some xs → wpAny (model X.prog X.w) A (collect u) Q E s := fun e => by
    obtain ⟨ad, vs, rfl, rls, q⟩ := seqD_ok2 rp rl e
    obtain rfl : u = Value.ref ad := rv
    rcases q with ⟨sq, _⟩ | ⟨sq, _⟩
    · obtain ⟨its, rv2, pl, hz⟩ := I.list sq
      have hz' : its.length ≤ sizeLine := by rw [← rv2.length]; exact hz
      exact collect_list pl.isList (hQ _ _ _ s.toks (I.kept (t' := s.toks) fun b o q => cop_old q) (fun b o q => cop_old q) rls rv2 hz') hz'
    · obtain ⟨its, rv2, pt, hz⟩ := I.tuple sq
      have hz' : its.length ≤ sizeLine := by rw [← rv2.length]; exact hz
      exact collect_tup pt (hQ _ _ _ s.toks (I.kept (t' := s.toks) fun b o q => cop_old q) (fun b o q => cop_old q) rls rv2 hz') hz'
  have dk : ∀ {ad : Addr} {kvs : List (Key × D)} {vs : List (Key × V)}, v = .ref ad → Rd H ad (.dK vs) → RelP X.K X.mg r H kvs vs → xs = kvs.map (fun kv => kD kv.1) → wpAny (model X.prog X.w) A (collect u) Q E s := fun {ad kvs vs} ev hd rls ex => by
    subst ev ex
    obtain rfl : u = Value.ref ad := rv
    obtain ⟨z, lo, vs', rel, dd⟩ := dk_rd I.hok hd
    obtain ⟨ep, hat⟩ := dd.dictAt
    have hl : vs.length = vs'.length := rel.length
    have hz : vs'.length ≤ sizeLine := by rw [← hl]; exact z
    refine PySem.W.kdu_collect (A := A) (PySem.W.kdl_dict (knd := mixKind X.prog X.w) (kvs := vs') (ep := ep) lo) hh hat hz fun h' tk acc hk hacc => ?_
    have ek : vs.map (·.1) = vs'.map (·.1) := rel.keys
    have ek2 : kvs.map (·.1) = vs.map (·.1) := by
      clear hQ seq e hacc ek hz hl hat dd rel z hd
      induction rls with
      | nil => rfl
      | cons q t ih => rw [List.map_cons, List.map_cons, ih, q.1]
    have hv : Vals ((vs.map (·.1)).map kV) acc.toList := vals_of_items (by rw [hacc.1, List.length_map, hl]) fun j v e => by
      obtain ⟨k, x, e1, e2⟩ := hacc.2 j v e
      refine ⟨k, ?_, relV_key (show keyIs k v = true from e2)⟩
      rw [ek, List.getElem?_map, e1]; rfl
    refine hQ acc.toList _ h' tk (I.kept hk) hk ?_ hv (by rw [Array.length_toList, hacc.1]; exact hz)
    rw [← ek2]
    have := kDs_rel (K := X.K) (mg := X.mg) (r := r) (H := H) (kvs.map (·.1))
    rw [List.map_map] at this
    exact this
  have dt : ∀ {ad : Addr} {kvs : List (List Key × D)} {vs : List (List Key × V)}, v = .ref ad → Rd H ad (.dT vs) → RelP X.K X.mg r H kvs vs → xs = kvs.map (fun kv => .tup (kv.1.map kD)) → wpAny (model X.prog X.w) A (collect u) Q E s := fun {ad kvs vs} ev hd rls ex => by
    subst ev ex
    obtain rfl : u = Value.ref ad := rv
    obtain ⟨z, lo, xs', pr, o, es, ep, ho, hx, hdt, he, _⟩ := (show ObjOk X.prog X.w H s.heap ad (.dT vs) from rd_of I.hok hd)
    have hsz : es.size = vs.length := by rw [size_of_entries he, ← Paired.length pr]
    refine PySem.W.kdu_collect (A := A) (KdlSrc.rawDict (es := es) (ep := ep) lo) hh ⟨o, ho, hx, hdt⟩ (by rw [hsz]; exact z) fun h' tk acc hk hacc => ?_
    have main : ∃ ws, Vals ws acc.toList ∧ RelDs X.K X.mg r H (kvs.map fun kv => D.tup (kv.1.map kD)) ws := by
      have at' : ∀ (j : Nat) (v : Value), acc.toList[j]? = some v → ∃ q b, xs'[j]? = some q ∧ v = .ref q.2.1 ∧ vs[j]? = some b ∧ H q.2.1 = some (.tup (b.1.map kV)) := fun j v e => by
        obtain ⟨hi, e1⟩ := hacc.2 j v (by rw [← Array.getElem?_toList]; exact e)
        have e2 := entry_at he j
        rw [Array.getElem?_eq_getElem hi] at e2
        cases e3 : xs'[j]? with
        | none => rw [e3] at e2; cases e2
        | some q =>
          rw [e3] at e2
          have e4 : es[j] = entryOfKey (tupleKind (mixKind X.prog X.w)) q := Option.some.inj e2
          have hj : j < vs.length := by rw [← hsz]; exact hi
          obtain ⟨y, hy, z1, z2, z3⟩ := L2.paired_get pr (List.getElem?_eq_getElem hj)
          rw [e3] at hy
          cases hy
          exact ⟨q, vs[j], rfl, by rw [e1, e4]; rfl, List.getElem?_eq_getElem hj, z2⟩
      have hl : acc.toList.length = kvs.length := by rw [Array.length_toList, hacc.1, hsz, ← relP_len rls]
      clear hQ seq dk hacc e
      generalize acc.toList = us at at' hl
      have go : ∀ (kvs : List (List Key × D)) (us : List Value) (vs : List (List Key × V)), RelP X.K X.mg r H kvs vs → us.length = kvs.length → (∀ (j : Nat) (v : Value), us[j]? = some v → ∃ (q : Addr) (b : List Key × V), v = .ref q ∧ vs[j]? = some b ∧ H q = some (.tup (b.1.map kV))) → ∃ ws, Vals ws us ∧ RelDs X.K X.mg r H (kvs.map fun kv => D.tup (kv.1.map kD)) ws := by
        intro kvs us vs rls
        induction rls generalizing us with
        | nil => intro hl _; cases us with
          | nil => exact ⟨[], .nil, .nil⟩
          | cons _ _ => cases hl
        | cons q t ih =>
          intro hl hi
          cases us with
          | nil => cases hl
          | cons v us =>
            obtain ⟨a, b, e1, e2, e3⟩ := hi 0 v rfl
            cases e2
            subst e1
            obtain ⟨ws, w1, w2⟩ := ih us (by simpa using hl) fun j v e => hi (j + 1) v (by simpa using e)
            exact ⟨.ref a :: ws, .cons rfl w1, .cons (.tup e3 (by rw [q.1]; exact kDs_rel _)) w2⟩
      exact go kvs us vs rls hl fun j v e => let ⟨q, b, _, e2, e3, e4⟩ := at' j v e; ⟨q.2.1, b, e2, e3, e4⟩
    obtain ⟨ws, w1, w2⟩ := main
    exact hQ acc.toList ws h' tk (I.kept hk) hk w2 w1 (by rw [Array.length_toList, hacc.1, hsz]; exact z)
  unfold collG at e
  cases rl with
  | @ref i ad ea =>
    dsimp only at e
    split at e
    · rename_i kvs hx
      obtain ⟨vs, q, rls⟩ := rp.obs _ _ ad hx ea
      exact dk rfl (.inl q) rls (Option.some.inj e).symm
    · rename_i kvs hx
      obtain ⟨od, vs, q, rls⟩ := rp.obs _ _ ad hx ea
      exact dk rfl (.inr ⟨od, q⟩) rls (Option.some.inj e).symm
    · rename_i kvs hx
      obtain ⟨vs, q, rls⟩ := rp.obs _ _ ad hx ea
      exact dt rfl (.inl q) rls (Option.some.inj e).symm
    · rename_i kvs hx
      obtain ⟨od, vs, q, rls⟩ := rp.obs _ _ ad hx ea
      exact dt rfl (.inr ⟨od, q⟩) rls (Option.some.inj e).symm
    · exact seq e
  | _ => exact seq e
end
end PM
end
section
set_option Elab.async false
set_option linter.all false
set_option maxRecDepth 100000
set_option maxHeartbeats 2000000
namespace PM
open PySem PySem.Spec PyProof.Rows L2

section
variable {X : Cx} {K : PySem.W.Frag} {mg : Str → Option Value} {r : List Addr} {H : Hp} {h : HP} {W : WX} {e : Expr} {es : List Expr} {t : MA} {pos : Pos}
/-! ### sorted -/
/-- the data can be sorted -/
def SrtOk (ps : List PyData) : Prop := PySem.W.AllAlike ps ∧ PySem.W.Sortable ps ∧ (∀ p ∈ ps, p.depth ≤ 60) ∧ ps.length ≤ 1000000
/-- the items by their keys -/
noncomputable def srt (xs : List D) (ps : List PyData) : List D := ((xs.zip ps).mergeSort (PySem.W.dataLe false (·.2))).map (·.1)
open Classical in
noncomputable def srtG : List D → HP → Option (D × HP) := fun ds h => match ds with
  | [d] => match collG d h with
    | some xs => match xs.mapM (toPy 60 h) with
      | some ps => if SrtOk ps then some (.ref h.length, h ++ [.lst (srt xs ps)]) else none
      | none => none
    | none => none
  | _ => none
/-- the keys, one call after the other -/
def runKeys (m : List D → HP → R D) : List D → HP → R (List D)
  | [], h => .ok [] h
  | x :: xs, h => match m [x] h with
    | .ok k h => match runKeys m xs h with
      | .ok ks h => .ok (k :: ks) h
      | _ => .bad
    | _ => .bad
open Classical in
noncomputable def srtK (m : List D → HP → R D) : List D → HP → R D := fun ds h => match ds with
  | [d] => match collG d h with
    | some xs => match runKeys m xs h with
      | .ok ks h => match ks.mapM (toPy 60 h) with
        | some ps => if SrtOk ps then .ok (.ref h.length) (h ++ [.lst (srt xs ps)]) else .bad
        | none => .bad
      | _ => .bad
    | none => .bad
  | _ => .bad
/-- an item with its key's data, its abstract value -/
abbrev It3 := D × PyData × V
def zip3 : List D → List PyData → List V → List It3
  | d :: ds, p :: ps, v :: vs => (d, p, v) :: zip3 ds ps vs
  | _, _, _ => []
theorem zip3_d : ∀ {ds : List D} {ps : List PyData} {vs : List V}, ds.length = ps.length → vs.length = ps.length → (zip3 ds ps vs).map (fun b => (b.1, b.2.1)) = ds.zip ps
  | [], [], [], _, _ => rfl
  | _ :: _, _ :: _, _ :: _, h1, h2 => by unfold zip3; rw [List.map_cons, zip3_d (by simpa using h1) (by simpa using h2)]; rfl
  | [], _ :: _, _, h1, _ => by cases h1
  | _ :: _, [], _, h1, _ => by cases h1
  | _, [], _ :: _, _, h2 => by cases h2
  | _, _ :: _, [], _, h2 => by cases h2
theorem zip3_p : ∀ {ds : List D} {ps : List PyData} {vs : List V}, ds.length = ps.length → vs.length = ps.length → (zip3 ds ps vs).map (fun b => b.2.1) = ps
  | [], [], [], _, _ => rfl
  | _ :: _, _ :: _, _ :: _, h1, h2 => by unfold zip3; rw [List.map_cons, zip3_p (by simpa using h1) (by simpa using h2)]
  | [], _ :: _, _, h1, _ => by cases h1
  | _ :: _, [], _, h1, _ => by cases h1
  | _, [], _ :: _, _, h2 => by cases h2
  | _, _ :: _, [], _, h2 => by cases h2
theorem zip3_is {us : List Value} : ∀ {ds : List D} {ps : List PyData} {vs : List V} {us : List Value}, ds.length = ps.length → Vals vs us → RelDs K mg r H ds vs → PySem.W.EachIs (fun u (b : It3) => RelV b.2.2 u ∧ RelD K mg r H b.1 b.2.2) us (zip3 ds ps vs)
  | [], [], _, _, _, .nil, .nil => .nil
  | _ :: _, _ :: _, _, _, h1, .cons a b, .cons c d => .cons ⟨a, c⟩ (zip3_is (us := us) (by simpa using h1) b d)
  | [], _ :: _, _, _, h1, _, _ => by cases h1
  | _ :: _, [], _, _, h1, _, _ => by cases h1
theorem each_vals {us : List Value} {bs : List It3} (e : PySem.W.EachIs (fun u (b : It3) => RelV b.2.2 u ∧ RelD K mg r H b.1 b.2.2) us bs) : Vals (bs.map fun b => b.2.2) us ∧ RelDs K mg r H (bs.map fun b => b.1) (bs.map fun b => b.2.2) := by
  induction e with
  | nil => exact ⟨.nil, .nil⟩
  | cons a t ih => exact ⟨.cons a.1 ih.1, .cons a.2 ih.2⟩
theorem srt_map {ds : List D} {ps : List PyData} {vs : List V} (h1 : ds.length = ps.length) (h2 : vs.length = ps.length) : ((zip3 ds ps vs).mergeSort (PySem.W.dataLe false fun b => b.2.1)).map (fun b => b.1) = srt ds ps := by
  unfold srt
  have z := List.map_mergeSort (r := PySem.W.dataLe false fun b : It3 => b.2.1) (s := PySem.W.dataLe false fun b : D × PyData => b.2) (f := fun b : It3 => (b.1, b.2.1)) (l := zip3 ds ps vs) (fun a _ b _ => rfl)
  rw [← zip3_d h1 h2, ← z, List.map_map]
  rfl
theorem mapM_len {α β : Type} {f : α → Option β} : ∀ {xs : List α} {ys : List β}, xs.mapM f = some ys → xs.length = ys.length
  | [], ys, e => by simp at e; subst e; rfl
  | x :: xs, ys, e => by
    rw [List.mapM_cons] at e
    cases e1 : f x with
    | none => rw [e1] at e; cases e
    | some y =>
      rw [e1] at e
      cases e2 : xs.mapM f with
      | none => rw [e2] at e; cases e
      | some ys' => rw [e2] at e; cases e; simp [mapM_len e2]
theorem reads_all {pins : List (Addr × Obj)} {s : Shared} {σ : L2.St} {h : HP} {r : List Addr} {H : Hp} (I : Inv X pins σ H s) (rp : Rep X.K X.mg r h H) : ∀ {ds : List D} {ps : List PyData} {vs : List V} {us : List Value}, ds.mapM (toPy 60 h) = some ps → RelDs X.K X.mg r H ds vs → Vals vs us → PySem.W.EachIs (fun u d => ∃ as, Reads s.heap u d as) us ps
  | [], ps, _, _, e, .nil, .nil => by simp at e; subst e; exact .nil
  | d :: ds, ps, _, _, e, .cons a t, .cons c q => by
    rw [List.mapM_cons] at e
    cases e1 : toPy 60 h d with
    | none => rw [e1] at e; cases e
    | some p =>
      rw [e1] at e
      cases e2 : ds.mapM (toPy 60 h) with
      | none => rw [e2] at e; cases e
      | some ps' =>
        rw [e2] at e
        cases e
        exact .cons (Dp.reads I p _ _ (toPy_ok rp 60 d p _ e1 a) c) (reads_all I rp e2 t q)
theorem each_both {R S : Value → It3 → Prop} : ∀ {us : List Value} {bs : List It3}, PySem.W.EachIs R us bs → PySem.W.EachIs S us bs → PySem.W.EachIs (fun u b => R u b ∧ S u b) us bs
  | _, _, .nil, .nil => .nil
  | _, _, .cons a t, .cons b q => .cons ⟨a, b⟩ (each_both t q)
theorem each_p {f : It3 → PyData} {R : Value → PyData → Prop} : ∀ {us : List Value} {bs : List It3}, PySem.W.EachIs R us (bs.map f) → PySem.W.EachIs (fun u b => R u (f b)) us bs
  | _, [], .nil => .nil
  | _, _ :: _, .cons a t => .cons a (each_p t)
/-- sorted(x) -/
theorem call_srtG (hcalm : X.calm = true) (hu : X.A.units + 64 < cLine) : CallR X (.builtin "sorted") (rVs X.K X.mg srtG) := by
  intro pins s σ H xs us Q I rv ⟨r, ds, h, rp, rl, p⟩
  unfold srtG at p
  split at p
  · rename_i d
    obtain ⟨v, rfl, rd⟩ := one_of (ds := []) rl
    cases e1 : collG d h with
    | none => rw [e1] at p; exact p.elim
    | some xs =>
      rw [e1] at p
      dsimp only at p
      cases e2 : xs.mapM (toPy 60 h) with
      | none => rw [e2] at p; exact p.elim
      | some ps =>
        rw [e2] at p
        dsimp only at p
        by_cases hok : SrtOk ps
        · rw [if_pos hok] at p
          obtain ⟨hal, hsk, hdp, hln⟩ := hok
          cases rv with
          | cons rv1 rr =>
            cases rr
            refine Calls.call_function_entry PyProof.Rows.kind_sorted PyProof.Rows.plain_sorted PyProof.Rows.entry_sorted (PyProof.Rows.args_sorted1 _) ?_
            unfold Builtin.«sorted»
            refine wpAny_bind (m := checkCount "sorted" 1 1 _) (wpAny_pure ?_)
            refine wpAny_bind (collect_any (A := X.A.in1) (I.ok.hd hcalm) I rp rd rv1 e1 fun us vs h' tk I1 hk rls rvs hz => ?_)
            refine wpAny_bind (wpAny_newList ?_ hz)
            have hoL : (h'.push (seqObj "list" us.toArray 0)).get? h'.objs.size = some (seqObj "list" us.toArray 0) := Heap.get?_push_size _ rfl
            have I2 : Inv X pins σ (upd H h'.objs.size (.lst vs)) { s with heap := h'.push (seqObj "list" us.toArray 0), toks := tk } := I1.laid (t' := tk) (fun b u q => Heap.get?_push_of_some _ q) (Nat.le_refl _) ⟨by rw [rvs.length]; exact hz, us, 0, rvs, hoL⟩
            have hn : H h'.objs.size = none := I1.hok.fresh (Nat.le_refl _)
            have hl2 : us.length = xs.length := by rw [← rvs.length, rls.length]
            have lp := mapM_len e2
            have rdx := reads_all (I.kept (h' := h') (t' := tk) hk) rp e2 rls rvs
            have rdy : PySem.W.EachIs (fun u d => ∃ as, Reads (PySem.W.sortingHeap (h'.push (seqObj "list" us.toArray 0)) h'.objs.size us) u d as) us ps := rdx.mono fun u d ⟨as, q⟩ => ⟨as, PyProof.Rows.Reads.keeps (fun b o z => PySem.W.sortingHeap_old (Nat.ne_of_lt (Heap.lt_size z)) (Heap.get?_push_of_some _ z)) q⟩
            have S := PySem.W.SortsAt.data (prog := X.prog) (w := X.w) (A := X.A.in1.in1) (s := { s with heap := PySem.W.sortingHeap (h'.push (seqObj "list" us.toArray 0)) h'.objs.size us, toks := tk }) rdy hal hsk fun d hd => by
              have := hdp d hd
              show X.A.units + 1 + 1 + d.depth < cLine
              omega
            show wpAny _ _ _ _ _ { s with heap := h'.push (seqObj "list" us.toArray 0), toks := tk }
            refine wpAny_bind (wpAny_holding (wpAny_call_entry PyProof.Rows.slot_list_sort ⟨_, hoL, rfl⟩ PyProof.Rows.entry_list_sort
              (PySem.W.list_sort_vals (s := { s with heap := h'.push (seqObj "list" us.toArray 0), toks := tk }) hoL S hz ⟨_, rfl, ?_⟩) (PyProof.Rows.args_list_sort _)))
            -- what came out
            have eb := zip3_is (us := us) lp rvs rls
            have eps := zip3_p (vs := vs) lp (by rw [← rls.length, lp])
            have hout := PySem.W.sortVals_data (enc := fun b : It3 => b.2.1) false eb (each_p (f := fun b : It3 => b.2.1) (R := fun u d => ∃ as, Reads (PySem.W.sortingHeap (h'.push (seqObj "list" us.toArray 0)) h'.objs.size us) u d as) (by rw [eps]; exact rdy)) (by rw [eps]; exact hal)
            rw [eps] at hout
            obtain ⟨ov, od⟩ := each_vals hout
            rw [srt_map lp (by rw [← rls.length, lp])] at od
            obtain ⟨e', he'⟩ := PyProof.Rows.sortedHeap_at (vs := us) (out := (PySem.W.sortVals (PySem.W.dataKind (PySem.W.sortingHeap (h'.push (seqObj "list" us.toArray 0)) h'.objs.size us) ps) false us us).toArray) hoL
            have olen : (((zip3 xs ps vs).mergeSort (PySem.W.dataLe false fun b => b.2.1)).map fun b => b.2.2).length ≤ sizeLine := by
              have : (zip3 xs ps vs).length = ps.length := by have z := congrArg List.length eps; rw [List.length_map] at z; exact z
              rw [List.length_map, List.length_mergeSort, this]
              exact line_of hln
            refine wpAny_pure ⟨_, rfl, .ref h'.objs.size, upd (upd H h'.objs.size (.lst vs)) h'.objs.size (.lst (((zip3 xs ps vs).mergeSort (PySem.W.dataLe false fun b => b.2.1)).map fun b => b.2.2)), ?_, rfl, ?_⟩
            · refine I2.write (x := h'.objs.size) (e := h'.objs.size) (t' := tk) (by rw [upd_same]; exact True.intro) (.inl rfl) (fun b u hb q => ?_) ⟨_, he'⟩ ⟨olen, _, e', ov, he'⟩
              rw [PyProof.Rows.sortedHeap_old hb (Heap.lt_size q)]
              exact q
            · rw [upd_upd]
              exact p.lst rp od hn
        · rw [if_neg hok] at p; exact p.elim
  · exact p.elim

/-- the def's call within built-ins -/
theorem run_in {k : Nat} {f : Addr} {fd : FuncData} {ps : List Str} {m : List D → HP → R D} {pins : List (Addr × Obj)} {s : Shared} {σ : L2.St} {Q : Value → Shared → Prop} {E : Value → Shared → Prop} {A : Around} {d : D} {v : V} {u : Value} {d2 : D} {h2 : HP}
    (F : FnOk X.prog X.w X.K X.mg X.base (L2.CX X.prog X.w) k f fd ps (spM X.K X.mg 1 m)) (hA : Env0 X.prog X.w X.K X.mg X.base A X.stack s H) (hr : Room k A) (hb : Binds X.K fd ps []) (hp : ps.length = 1) (I : Inv X pins σ H s) (rp : Rep X.K X.mg r h H) (rl : RelD X.K X.mg r H d v) (rv : RelV v u)
    (e : m [d] h = .ok d2 h2) (hQ : ∀ r2 v2 u2 H2 s2, Inv X pins σ H2 s2 → Ext r r2 → Keep H H2 → Rep X.K X.mg r2 h2 H2 → RelD X.K X.mg r2 H2 d2 v2 → RelV v2 u2 → Q u2 s2) : wpAny (model X.prog X.w) A (call (.ref f) [u]) Q E s := by
  have hl : ([u] : List Value).length = ps.length := by rw [hp]; rfl
  refine wpAny_call (codeAny_mono (F.run A X.stack s H ⟨[u], []⟩ [u] [v] (fun v2 H2 => ∃ r2, Ext r r2 ∧ Keep H H2 ∧ Rep X.K X.mg r2 h2 H2 ∧ RelD X.K X.mg r2 H2 d2 v2) (fun _ _ _ => False) hr hA (by simpa using hb s [u] I.kIn (by simpa using hl)) (.cons rv .nil) ⟨r, [d], h, rp, .cons rl .nil, rfl, by rw [e]; exact fun r2 v2 H2 x k2 rp2 rl2 => ⟨r2, x, k2, rp2, rl2⟩⟩) fun z s' hq => ?_)
  cases z with
  | error ex =>
    obtain ⟨_, _, _, _, _, _, _, _, _, _, _, _, z⟩ := hq
    exact z.elim
  | ok fl =>
    cases fl with
    | ret u2 =>
      obtain ⟨v2, H2, I2, rv2, r2, x, k2, rp2, rl2⟩ := I.after hq
      exact hQ r2 v2 u2 H2 s' I2 x k2 rp2 rl2 rv2
    | next => exact False.elim hq
    | brk => exact False.elim hq
    | cont => exact False.elim hq
theorem runKeys_cons {m : List D → HP → R D} {d : D} {ds ks : List D} {h h3 : HP} (e : runKeys m (d :: ds) h = .ok ks h3) : ∃ k h2 ks', m [d] h = .ok k h2 ∧ runKeys m ds h2 = .ok ks' h3 ∧ ks = k :: ks' := by
  unfold runKeys at e
  cases e1 : m [d] h with
  | ok k h2 =>
    rw [e1] at e
    dsimp only at e
    cases e2 : runKeys m ds h2 with
    | ok ks' h4 => rw [e2] at e; cases e; exact ⟨k, h2, ks', rfl, e2, rfl⟩
    | exc c fs h4 => rw [e2] at e; cases e
    | bad => rw [e2] at e; cases e
  | exc c fs h2 => rw [e1] at e; cases e
  | bad => rw [e1] at e; cases e
theorem runKeys_len {m : List D → HP → R D} : ∀ {ds ks : List D} {h h3 : HP}, runKeys m ds h = .ok ks h3 → ks.length = ds.length
  | [], _, _, _, e => by cases e; rfl
  | d :: ds, ks, h, h3, e => by
    obtain ⟨k, h2, ks', _, e2, rfl⟩ := runKeys_cons e
    simp [runKeys_len e2]
end
end PM
end
section
set_option Elab.async false
set_option linter.all false
set_option maxRecDepth 100000
set_option maxHeartbeats 2000000
namespace PM
open PySem PySem.Spec PyProof.Rows L2

section
variable {X : Cx} {K : PySem.W.Frag} {mg : Str → Option Value} {r : List Addr} {H : Hp} {h : HP} {W : WX} {e : Expr} {es : List Expr} {t : MA} {pos : Pos} {a : Addr}
mutual
theorem RelD.ov {u : HO} (nt : ∀ xs, H a ≠ some (.tup xs) ∧ ∀ o, H a ≠ some (.frz o (.tup xs))) {d : D} {v : V} (q : RelD K mg r H d v) : RelD K mg r (upd H a u) d v := match q with
  | .non => .non
  | .bl b => .bl b
  | .int i => .int i
  | .str x => .str x
  | .tup s t => .tup (by rw [upd_ne (fun z => by subst z; exact (nt _).1 s)]; exact s) (RelDs.ov nt t)
  | .stp s t => .stp (by
      rcases s with ⟨o, e, d⟩ | s
      · exact .inl ⟨o, by rw [upd_ne (fun z => by subst z; exact (nt _).2 o e)]; exact e, d⟩
      · exact .inr s) (RelDs.ov nt t)
  | .ref q => .ref q
  | .fn q => .fn q
  | .ty n => .ty n
theorem RelDs.ov {u : HO} (nt : ∀ xs, H a ≠ some (.tup xs) ∧ ∀ o, H a ≠ some (.frz o (.tup xs))) {d : List D} {v : List V} (q : RelDs K mg r H d v) : RelDs K mg r (upd H a u) d v := match q with
  | .nil => .nil
  | .cons a b => .cons (RelD.ov nt a) (RelDs.ov nt b)
end
theorem RelP.ov {κ : Type} {u : HO} (nt : ∀ xs, H a ≠ some (.tup xs) ∧ ∀ o, H a ≠ some (.frz o (.tup xs))) : ∀ {ds : List (κ × D)} {vs : List (κ × V)}, RelP K mg r H ds vs → RelP K mg r (upd H a u) ds vs
  | _, _, .nil => .nil
  | _, _, .cons q t => .cons ⟨q.1, q.2.ov nt⟩ (RelP.ov nt t)
/-- a thing that no plain object stands for -/
def tx : HO := .ext fun _ => True
theorem RepO.ov {o : Ob} {b : Addr} {od : Obj} {u : HO} (ha : H a = Option.some (.frz od tx)) (q : RepO K mg r H o b) : RepO K mg r (upd H a u) o b := by
  have nt : ∀ xs, H a ≠ Option.some (.tup xs) ∧ ∀ o, H a ≠ Option.some (.frz o (.tup xs)) := fun xs => ⟨fun z => (by rw [ha] at z; cases z), fun o z => (by rw [ha] at z; cases z)⟩
  have ne : ∀ {x : HO}, H b = Option.some x → x ≠ .frz od tx → b ≠ a := fun {x} e hx z => by subst z; rw [ha] at e; exact hx (Option.some.inj e).symm
  cases o with
  | lst xs => obtain ⟨vs, q, t⟩ := q; exact ⟨vs, by rw [upd_ne (ne q (fun z => nomatch z))]; exact q, t.ov nt⟩
  | dic kvs => obtain ⟨vs, q, t⟩ := q; exact ⟨vs, by rw [upd_ne (ne q (fun z => nomatch z))]; exact q, t.ov nt⟩
  | rdl xs =>
    obtain ⟨vs, q, t⟩ := q
    refine ⟨vs, ?_, t.ov nt⟩
    rcases q with ⟨ob, q⟩ | q
    · exact .inl ⟨ob, by rw [upd_ne (ne q (fun z => by injection z with z1 z2; cases z2))]; exact q⟩
    · exact .inr q
  | ins c fs => obtain ⟨C, dx, vs, q1, q, t⟩ := q; exact ⟨C, dx, vs, q1, by rw [upd_ne (ne q (fun z => nomatch z))]; exact q, t.ov nt⟩
  | dit kvs => obtain ⟨vs, q, t⟩ := q; exact ⟨vs, by rw [upd_ne (ne q (fun z => nomatch z))]; exact q, t.ov nt⟩
  | rdd kvs => obtain ⟨od, vs, q, t⟩ := q; exact ⟨od, vs, by rw [upd_ne (ne q (fun z => by injection z with z1 z2; cases z2))]; exact q, t.ov nt⟩
  | rdt kvs => obtain ⟨od, vs, q, t⟩ := q; exact ⟨od, vs, by rw [upd_ne (ne q (fun z => by injection z with z1 z2; cases z2))]; exact q, t.ov nt⟩
theorem RelD.ext {r' : List Addr} (x : Ext r r') {d : D} {v : V} (q : RelD K mg r H d v) : RelD K mg r' H d v := q.mono x (Keep.refl H)
theorem RepO.ext {r' : List Addr} (x : Ext r r') {o : Ob} {b : Addr} (q : RepO K mg r H o b) : RepO K mg r' H o b := RepO.mono x (Keep.refl H) (fun _ => rfl) q
theorem RepO.at_tx {o : Ob} {b : Addr} {od : Obj} (hb : H b = Option.some (.frz od tx)) (m : uq o = true) (q : RepO K mg r H o b) : False := by
  cases o with
  | lst xs => obtain ⟨vs, q, t⟩ := q; rw [hb] at q; cases q
  | dic kvs => obtain ⟨vs, q, t⟩ := q; rw [hb] at q; cases q
  | rdl xs => cases m
  | ins c fs => obtain ⟨C, dx, vs, q1, q, t⟩ := q; rw [hb] at q; cases q
  | dit kvs => obtain ⟨vs, q, t⟩ := q; rw [hb] at q; cases q
  | rdd kvs => obtain ⟨od, vs, q, t⟩ := q; rw [hb] at q; cases q
  | rdt kvs => obtain ⟨od, vs, q, t⟩ := q; rw [hb] at q; cases q
/-- that thing becomes an object of the plain heap -/
theorem Rep.adopt {o : Ob} {od : Obj} {u : HO} (R : Rep K mg r h H) (ha : H a = some (.frz od tx)) (q : RepO K mg (r ++ [a]) (upd H a u) o a) : Rep K mg (r ++ [a]) (h ++ [o]) (upd H a u) := by
  have no : ∀ {i : Nat} {o' : Ob}, h[i]? = some o' → r[i]? = some a → uq o' = true → False := fun e1 e2 m => RepO.at_tx ha m (R.obs _ _ _ e1 e2)
  refine ⟨by simp [R.len], fun i o' b e1 e2 => ?_, fun i j b oi oj e1 e2 m1 m2 e3 e4 => ?_⟩
  · rcases get_snoc e1 with ⟨l1, e1⟩ | ⟨l1, e1⟩
    · rcases get_snoc e2 with ⟨l2, e2⟩ | ⟨l2, e2⟩
      · exact ((R.obs i o' b e1 e2).ov ha).ext (Ext.one r a)
      · rw [R.len] at l2; omega
    · rcases get_snoc e2 with ⟨l2, e2⟩ | ⟨l2, e2⟩
      · rw [R.len] at l2; omega
      · subst e1 e2; exact q
  · rcases get_snoc e1 with ⟨l1, e1⟩ | ⟨l1, e1⟩
    · rcases get_snoc e3 with ⟨_, e3⟩ | ⟨l3, _⟩
      · rcases get_snoc e2 with ⟨l2, e2⟩ | ⟨l2, e2⟩
        · rcases get_snoc e4 with ⟨_, e4⟩ | ⟨l4, _⟩
          · exact R.inj i j b oi oj e1 e2 m1 m2 e3 e4
          · rw [R.len] at l4; omega
        · rcases get_snoc e4 with ⟨l4, _⟩ | ⟨_, e4⟩
          · rw [R.len] at l4; omega
          · subst e4; exact (no e1 e3 m1).elim
      · rw [R.len] at l3; omega
    · rcases get_snoc e3 with ⟨l3, _⟩ | ⟨_, e3⟩
      · rw [R.len] at l3; omega
      · rcases get_snoc e2 with ⟨l2, e2⟩ | ⟨l2, e2⟩
        · rcases get_snoc e4 with ⟨_, e4⟩ | ⟨l4, _⟩
          · subst e3; exact (no e2 e4 m2).elim
          · rw [R.len] at l4; omega
        · omega
theorem Keep.adopt {H0 : Hp} {u x : HO} (hn : H0 a = none) (k : Keep (upd H0 a x) H) : Keep H0 (upd H a u) := by
  have g : ∀ b o, H0 b = some o → b ≠ a := fun b o e z => by subst z; rw [hn] at e; cases e
  have f : ∀ b o, H0 b = some o → (upd H0 a x) b = some o := fun b o e => by rw [upd_ne (g b o e)]; exact e
  exact ⟨fun b xs e => by rw [upd_ne (g b _ e)]; exact k.tup b xs (f b _ e), fun b ob v e => by rw [upd_ne (g b _ e)]; exact k.frz b ob v (f b _ e), fun b fs e => by rw [upd_ne (g b _ e)]; exact k.xd b fs (f b _ e)⟩
theorem tx_ok {P : Program} {w : World} {s : Shared} {o : Obj} (e : s.heap.get? a = some o) : ObjOk P w H s.heap a tx := ⟨trivial, ⟨o, e⟩, fun _ _ _ _ => trivial⟩
theorem rel_snoc {xs : List D} {vs : List V} {us : List Value} {d : D} {v : V} {u : Value} (q1 : RelDs K mg r H xs vs) (q2 : Vals vs us) (q3 : RelD K mg r H d v) (q4 : RelV v u) : RelDs K mg r H (xs ++ [d]) (vs ++ [v]) ∧ Vals (vs ++ [v]) (us ++ [u]) := ⟨q1.append (.cons q3 .nil), q2.append (.cons q4 .nil)⟩
theorem runKeys_take {m : List D → HP → R D} : ∀ {ds ks : List D} {h h3 : HP}, runKeys m ds h = .ok ks h3 → ∀ (i : Nat) (d : D), ds[i]? = some d → ∃ h1 k h2, runKeys m (ds.take i) h = .ok (ks.take i) h1 ∧ m [d] h1 = .ok k h2 ∧ ks[i]? = some k ∧ runKeys m (ds.take (i + 1)) h = .ok (ks.take (i + 1)) h2
  | [], _, _, _, _, i, d, e => by simp at e
  | x :: ds, ks, h, h3, e, i, d, hd => by
    obtain ⟨k, h2, ks', e1, e2, rfl⟩ := runKeys_cons e
    cases i with
    | zero =>
      cases hd
      refine ⟨h, k, h2, rfl, e1, rfl, ?_⟩
      show runKeys m [x] h = _
      unfold runKeys
      rw [e1]; rfl
    | succ i =>
      obtain ⟨h1, k1, h4, z1, z2, z3, z4⟩ := runKeys_take e2 i d (by simpa using hd)
      refine ⟨h1, k1, h4, ?_, z2, by simpa using z3, ?_⟩
      · show runKeys m (x :: ds.take i) h = _
        unfold runKeys; rw [e1]; dsimp only; rw [z1]; rfl
      · show runKeys m (x :: ds.take (i + 1)) h = _
        unfold runKeys; rw [e1]; dsimp only; rw [z4]; rfl
end
end PM
end
section
set_option Elab.async false
set_option linter.all false
set_option maxRecDepth 100000
set_option maxHeartbeats 4000000
namespace PM
open PySem PySem.Spec PyProof.Rows L2

section
variable {X : Cx} {r : List Addr} {H : Hp} {h : HP} {W : WX} {e : Expr} {es : List Expr} {t : MA} {pos : Pos} {a : Addr}
/-- a turn of the keys' loop -/
def KInv (X : Cx) (pins : List (Addr × Obj)) (σ : L2.St) (r : List Addr) (Hl : Hp) (m : List D → HP → R D) (xs ks : List D) (h : HP) (kS : Addr) (i : Nat) (s' : Shared) : Prop :=
  ∃ r' H' h1 kA ep vk, Inv X pins σ H' s' ∧ Ext r r' ∧ Keep Hl H' ∧ Rep X.K X.mg r' h1 H' ∧ runKeys m (xs.take i) h = .ok (ks.take i) h1 ∧ RelDs X.K X.mg r' H' (ks.take i) vk ∧ Vals vk kA.toList ∧ s'.heap.get? kS = some (seqObj "list" kA ep) ∧ FpOk X pins H' kS
theorem key_tree {k : Nat} {f : Addr} {fd : FuncData} {ps : List Str} {m : List D → HP → R D} {pins : List (Addr × Obj)} {s : Shared} {σ : L2.St} {P : PySem.Fin → Shared → Prop} {E : Value → Shared → Prop} {xs ks : List D} {kd : List PyData} {vs : List V} {us : List Value} {h3 : HP} {n : Nat}
    (hu : X.A.units + 64 < cLine) (F : FnOk X.prog X.w X.K X.mg X.base (L2.CX X.prog X.w) k f fd ps (spM X.K X.mg 1 m)) (hr : Room k X.A.in1.in1) (hb : Binds X.K fd ps []) (hp : ps.length = 1)
    (ek : runKeys m xs h = .ok ks h3) (ed : ks.mapM (toPy 60 h3) = some kd) (ok : SrtOk kd) (I : Inv X pins σ (upd H a tx) s) (hn : H a = none) (ho : s.heap.get? a = some (seqObj "list" us.toArray n)) (rp : Rep X.K X.mg r h H) (rls : RelDs X.K X.mg r H xs vs) (rvs : Vals vs us) (hz : us.length ≤ sizeLine)
    (hQ : ∀ r2 H2 ov s2, Ext r r2 → Keep H (upd H2 a (.lst ov)) → Rep X.K X.mg (r2 ++ [a]) (h3 ++ [.lst (srt xs kd)]) (upd H2 a (.lst ov)) → Inv X pins σ (upd H2 a (.lst ov)) s2 → P (.done (.ret .none)) s2) :
    wpAny (model X.prog X.w) X.A.in1.in1 (ksk_tree a (.ref f) false) P E s := by
  have ha : a < s.heap.objs.size := Heap.lt_size ho
  obtain ⟨e1, ho1⟩ : ∃ e1, (s.heap.update a (Obj.mapSeq fun _ => (#[] : Array Value))).get? a = some (seqObj "list" #[] e1) := ⟨_, get?_update_seq ho fun _ => #[]⟩
  have lxs : xs.length = us.length := by rw [rls.length, rvs.length]
  unfold ksk_tree
  refine wpAny_bind (listItems_at ho rfl ?_)
  refine wpAny_bind (listUpdate_at ho rfl ?_ (by rw [List.size_toArray]; exact hz) (Nat.zero_le _))
  refine wpAny_bind (seqEpoch_at ho1 rfl ?_)
  refine wpAny_bind (wpAny_newTuple ?_ (by show us.length ≤ _; exact hz))
  refine wpAny_bind (wpAny_newList ?_ (Nat.zero_le _))
  refine wpAny_holding ?_
  -- the state that the keys begin in
  have I1 : Inv X pins σ (upd H a tx) { s with heap := s.heap.update a (Obj.mapSeq fun _ => (#[] : Array Value)), toks := s.toks } := by
    have := I.write (x := a) (e := a) (o := tx) (t' := s.toks) (h' := s.heap.update a (Obj.mapSeq fun _ => (#[] : Array Value))) (by rw [upd_same]; exact True.intro) (.inl rfl) (fun b u hb q => by rw [Heap.get?_update_ne _ _ _ _ hb]; exact q) ⟨_, ho1⟩ ⟨trivial, ⟨_, ho1⟩, fun _ _ _ _ => trivial⟩
    rw [upd_upd] at this; exact this
  have hkS : ((s.heap.update a (Obj.mapSeq fun _ => (#[] : Array Value))).push (seqObj "tuple" us.toArray 0)).objs.size = s.heap.objs.size + 1 := by rw [size_push', Heap.size_update]
  obtain ⟨kS, hkd⟩ : ∃ kS, kS = ((s.heap.update a (Obj.mapSeq fun _ => (#[] : Array Value))).push (seqObj "tuple" us.toArray 0)).objs.size := ⟨_, rfl⟩
  obtain ⟨g0, hg⟩ : ∃ g0, g0 = ((s.heap.update a (Obj.mapSeq fun _ => (#[] : Array Value))).push (seqObj "tuple" us.toArray 0)).push (seqObj "list" #[] 0) := ⟨_, rfl⟩
  have keepG : ∀ b o, (s.heap.update a (Obj.mapSeq fun _ => (#[] : Array Value))).get? b = some o → g0.get? b = some o := fun b o q => by rw [hg]; exact Heap.get?_push_of_some _ (Heap.get?_push_of_some _ q)
  have I2 : Inv X pins σ (upd H a tx) { s with heap := g0, toks := s.toks } := I1.kept keepG
  have nk : g0.get? kS = some (seqObj "list" #[] 0) := by rw [hg, hkd]; exact Heap.get?_push_size _ rfl
  have na : g0.get? a = some (seqObj "list" #[] e1) := keepG _ _ ho1
  have hka : kS ≠ a := by rw [hkd, hkS]; exact Nat.ne_of_gt (Nat.lt_succ_of_lt ha)
  have fk : FpOk X pins (upd H a tx) kS := by
    have hle : (s.heap.update a (Obj.mapSeq fun _ => (#[] : Array Value))).objs.size ≤ kS := by rw [hkd, hkS, Heap.size_update]; exact Nat.le_succ _
    exact I1.fpOk hle (I1.hok.fresh hle)
  obtain ⟨od, I3⟩ := I2.lock (d := a) (u := tx) upd_same True.intro
  rw [upd_upd] at I3
  have hod : od = seqObj "list" #[] e1 := by
    obtain ⟨z, _⟩ := I3.hok a (.frz od tx) upd_same
    have z : g0.get? a = some od := z
    rw [na] at z; exact (Option.some.inj z).symm
  subst hod
  have rp3 : Rep X.K X.mg r h (upd H a (.frz (seqObj "list" #[] e1) tx)) := rp.fresh hn
  have kp3 : Keep H (upd H a (.frz (seqObj "list" #[] e1) tx)) := Keep.new hn
  have rls3 := rls.mono (Ext.refl r) kp3
  have fk3 : FpOk X pins (upd H a (.frz (seqObj "list" #[] e1) tx)) kS := ⟨by have z := fk.1; rw [upd_ne hka] at z ⊢; exact z, fk.2⟩
  show wpAny (model X.prog X.w) X.A.in1.in1 (ksk_rest a (.ref f) false us.toArray e1 (.ref _)) P E { s with heap := ((s.heap.update a (Obj.mapSeq fun _ => (#[] : Array Value))).push (seqObj "tuple" us.toArray 0)).push (seqObj "list" #[] 0) }
  rw [← hkd, ← hg]
  have hla : upd H a (.frz (seqObj "list" #[] e1) tx) a = some (.frz (seqObj "list" #[] e1) tx) := upd_same
  have hadopt : ∀ {H2 : Hp} {u : HO}, Keep (upd H a (.frz (seqObj "list" #[] e1) tx)) H2 → Keep H (upd H2 a u) := fun q => Keep.adopt hn q
  revert I3 rp3 kp3 rls3 fk3 hla hadopt
  generalize upd H a (.frz (seqObj "list" #[] e1) tx) = Hl
  intro I3 rp3 kp3 rls3 fk3 hla hadopt
  unfold ksk_rest
  refine wpAny_bind (wpAny_rule ?_)
  rw [List.forIn_toArray]
  refine wpAny_bind (ksk_fold (KInv X pins σ r Hl m xs ks h kS) us 0 _ ⟨r, Hl, h, #[], 0, [], I3, Ext.refl r, Keep.refl Hl, rp3, rfl, .nil, .nil, nk, fk3⟩ ?step ?done)
  case step =>
    rintro j u s' hx ⟨r', H', h1, kA, ep, vk, J, x1, k1, rp1, ek1, rk, vk1, nk1, fk1⟩
    rw [Nat.zero_add] at ek1 rk ⊢
    have hj : j < xs.length := by rw [lxs]; exact (List.getElem?_eq_some_iff.mp hx).1
    obtain ⟨v, hv, rd⟩ := (rls3.mono x1 k1).get (List.getElem?_eq_getElem hj)
    obtain ⟨u2, hu2, ru⟩ := rvs.get hv
    rw [hx] at hu2
    cases hu2
    obtain ⟨g1, kk, g2, z1, z2, z3, z4⟩ := runKeys_take ek j _ (List.getElem?_eq_getElem hj)
    rw [z1] at ek1
    cases ek1
    have J' := J.pinned (fp := [kS]) (fun b hb => by obtain rfl : b = kS := by simpa using hb
                                                     exact fk1) (fun b hb => by
      obtain rfl : b = kS := by simpa using hb
      exact ⟨_, nk1, fun v z => nomatch z⟩)
    have lk : kA.size ≤ us.length := by
      have q1 := vk1.length
      have q2 := rk.length
      have q3 : kA.toList.length = kA.size := Array.length_toList
      rw [List.length_take] at q2
      rw [← q3, ← q1, ← q2, ← lxs]
      exact Nat.le_trans (Nat.min_le_left _ _) (Nat.le_of_lt hj)
    refine wpAny_bind (wpAny_attempt (run_in F J'.env0.in1.in1 hr hb hp J' rp1 rd ru z2 fun r2 v2 w2 H2 s2 J2 x2 k2 rp2 rd2 rw2 => ?_))
    obtain ⟨nk2, nS, _⟩ := J2.pin (kS, seqObj "list" kA ep) (List.mem_append_right _ (List.mem_append_right _ (mem_pinsAt (by simp) nk1)))
    have J3 := J2.unpinned (pins := pins)
    obtain ⟨c2, hc2⟩ : ∃ c2, (s2.heap.update kS (Obj.mapSeq (·.push w2))).get? kS = some (seqObj "list" (kA.push w2) c2) := ⟨_, get?_update_seq nk2 (·.push w2)⟩
    refine wpAny_bind (listUpdate_at nk2 rfl ?_ (Nat.le_trans lk hz) (Nat.le_trans (Nat.le_of_eq (Array.size_push ..)) (Nat.succ_le_succ (Nat.le_trans lk hz))))
    have fk2 : FpOk X pins H2 kS := ⟨nS, fk1.2⟩
    have J4 : Inv X pins σ H2 { s2 with heap := s2.heap.update kS (Obj.mapSeq (·.push w2)), toks := s2.toks } := J3.turnedL (ch := [kS]) (fun b o hb q => by rw [Heap.get?_update_ne _ _ _ _ (by simpa using hb)]; exact q) fun b hb => by
      obtain rfl : b = kS := by simpa using hb
      exact fk2
    have ekk : ks.take (j + 1) = ks.take j ++ [kk] := by rw [List.take_add_one, z3]; simp
    have eka : (kA.push w2).toList = kA.toList ++ [w2] := by simp
    obtain ⟨q1, q2⟩ := rel_snoc (rk.mono x2 k2) vk1 rd2 rw2
    exact wpAny_pure ⟨rfl, r2, H2, g2, kA.push w2, c2, vk ++ [v2], J4, x1.trans x2, k1.trans k2, rp2, z4, by rw [ekk]; exact q1, by rw [eka]; exact q2, hc2, fk2⟩
  case done =>
    rintro s' ⟨r', H', h1, kA, ep, vk, J, x1, k1, rp1, ek1, rk, vk1, nk1, fk1⟩
    rw [Nat.zero_add, ← lxs, List.take_length, ek] at ek1
    injection ek1 with ek2 ek3
    subst ek3
    rw [Nat.zero_add, ← lxs, ← runKeys_len ek, List.take_length] at rk
    obtain ⟨hal, hsk, hdp, hln⟩ := ok
    have rdk := reads_all J rp1 ed rk vk1
    have lkd := mapM_len ed
    have lks := runKeys_len ek
    have lkA : kA.toList.length = us.length := by rw [← vk1.length, ← rk.length, lks, lxs]
    have hfa : H' a = some (.frz (seqObj "list" #[] e1) tx) := k1.frz _ _ _ hla
    have na1 : s'.heap.get? a = some (seqObj "list" #[] e1) := (J.hok a _ hfa).1
    refine wpAny_bind (listItems_at nk1 rfl ?_)
    -- the heap without the keys' list
    obtain ⟨hH, hH1, hH2⟩ := L2.restrict s'.heap fun b => decide (b ≠ kS)
    have hHk : hH.get? kS = none := hH2 kS (by simp)
    have kb : PySem.W.KeepsBut a hH s'.heap := fun b o hb q => by
      by_cases hbk : b = kS
      · subst hbk; rw [hHk] at q; cases q
      · rw [← hH1 b (by simpa using hbk)]; exact q
    have S := PySem.W.SortsAt.data (prog := X.prog) (w := X.w) (A := X.A.in1.in1) (s := s') rdk hal hsk fun d hd => by
      have := hdp d hd
      show X.A.units + 1 + 1 + d.depth < cLine
      omega
    refine PySem.W.keyH_end (h₁ := hH) kb hHk nk1 na1 hka S (by rw [← Array.length_toList]; exact lkA) hz fun h' tk c kb2 na2 => ?_
    -- the list, sorted
    have lp : xs.length = kd.length := by rw [← lks, lkd]
    have eb := zip3_is (us := us) lp rvs (rls3.mono x1 k1)
    have eps := zip3_p (vs := vs) lp (by rw [← rls.length, lp])
    have hout := PySem.W.keyedOut_each (bs := zip3 xs kd vs) (fun b : It3 => b.2.1) (out := PySem.W.sortVals (PySem.W.dataKind s'.heap kd) false kA.toList us) ⟨s'.heap, kA.toList, by rw [eps]; exact hal, by rw [eps], by rw [eps]; exact rdk⟩ eb
    obtain ⟨ov, od⟩ := each_vals hout
    rw [srt_map lp (by rw [← rls.length, lp])] at od
    have olen : (((zip3 xs kd vs).mergeSort (PySem.W.dataLe false fun b => b.2.1)).map fun b => b.2.2).length ≤ sizeLine := by
      have : (zip3 xs kd vs).length = kd.length := by have z := congrArg List.length eps; rw [List.length_map] at z; exact z
      rw [List.length_map, List.length_mergeSort, this]
      exact line_of hln
    -- the heaps' changes: first the keys' list, then the list
    have old : ∀ b o, b ≠ kS → b ≠ a → s'.heap.get? b = some o → h'.get? b = some o := fun b o h1 h2 q => kb2 b o h2 (by rw [hH1 b (by simpa using h1)]; exact q)
    have na3 : (h'.update a fun _ => seqObj "list" #[] e1).get? a = some (seqObj "list" #[] e1) := (Heap.get?_eq_some _ _ _).mpr ⟨by rw [Heap.objs_update_self, ((Heap.get?_eq_some _ _ _).mp na2).1]; rfl, rfl⟩
    have J1 : Inv X pins σ H' { s' with heap := h'.update a fun _ => seqObj "list" #[] e1, toks := tk } := J.turnedL (ch := [kS]) (fun b o hb q => by
      by_cases hba : b = a
      · subst hba
        rw [na1] at q; cases q
        exact na3
      · rw [Heap.get?_update_ne _ _ _ _ hba]
        exact old b o (by simpa using hb) hba q) fun b hb => by
      obtain rfl : b = kS := by simpa using hb
      exact fk1
    have J2 := J1.unlock hfa (fun o' u' z => by
      have := J1.base.frzs a o' u' z
      rw [hfa] at this
      cases this
      have z2 := I.base.frzs a _ _ z
      rw [upd_same] at z2
      cases z2)
    have J3 : Inv X pins σ (upd (upd H' a tx) a (.lst (((zip3 xs kd vs).mergeSort (PySem.W.dataLe false fun b => b.2.1)).map fun b => b.2.2))) { s' with heap := h', toks := tk } := J2.write (x := a) (e := a) (by rw [upd_same]; exact True.intro) (.inl rfl) (fun b u hb q => by
      have q : (h'.update a fun _ => seqObj "list" #[] e1).get? b = some u := q
      rw [Heap.get?_update_ne _ _ _ _ hb] at q; exact q) ⟨_, na2⟩ ⟨olen, _, c, ov, na2⟩
    rw [upd_upd] at J3
    have nt : ∀ xs, H' a ≠ some (.tup xs) ∧ ∀ o, H' a ≠ some (.frz o (.tup xs)) := fun xs => ⟨fun z => (by rw [hfa] at z; cases z), fun o z => (by rw [hfa] at z; cases z)⟩
    exact hQ r' H' _ _ x1 (hadopt k1) (rp1.adopt hfa ⟨_, upd_same, (od.ov nt).mono (Ext.one r' a) (Keep.refl _)⟩) J3
/-- sorted(x, key=f), f a def of the module -/
noncomputable def mSrtK (m : List D → HP → R D) (t : MA) : ME := fun s h => (t s h).bind (srtK m)
def tSrtK (K : PySem.W.Frag) (mg : Str → Option Value) (f : Addr) (m : List D → HP → R D) : List V → List V → Hp → VK → Prop := fun vs zs H Q => zs = [.ref f] ∧ ∃ r ds h, Rep K mg r h H ∧ RelDs K mg r H ds vs ∧ match srtK m ds h with
  | .ok d h' => PostV K mg r H Q (some (d, h'))
  | _ => False
theorem call_srtK {k : Nat} {f : Addr} {fd : FuncData} {ps : List Str} {m : List D → HP → R D} (hcalm : X.calm = true) (hu : X.A.units + 64 < cLine) (F : FnOk X.prog X.w X.K X.mg X.base (L2.CX X.prog X.w) k f fd ps (spM X.K X.mg 1 m)) (hr : Room (k + 2) X.A) (hb : Binds X.K fd ps []) (hp : ps.length = 1) :
    CallRK X (.builtin "sorted") [Str.ofString "key"] (tSrtK X.K X.mg f m) := by
  intro pins s σ H vs zs us ws Q I rv rz ⟨ez, r, ds, h, rp, rl, p⟩
  subst ez
  obtain ⟨w1, rfl, rw1⟩ := vals1 rz
  obtain rfl : w1 = Value.ref f := rw1
  unfold srtK at p
  split at p
  · rename_i d' h' hz
    split at hz
    · rename_i d
      obtain ⟨v, rfl, rd⟩ := one_of (ds := []) rl
      cases e1 : collG d h with
      | none => rw [e1] at hz; cases hz
      | some xs =>
        rw [e1] at hz
        dsimp only at hz
        cases e2 : runKeys m xs h with
        | exc c fs h3 => rw [e2] at hz; cases hz
        | bad => rw [e2] at hz; cases hz
        | ok ks h3 =>
          rw [e2] at hz
          dsimp only at hz
          cases e3 : ks.mapM (toPy 60 h3) with
          | none => rw [e3] at hz; cases hz
          | some kd =>
            rw [e3] at hz
            dsimp only at hz
            by_cases hok : SrtOk kd
            · rw [if_pos hok] at hz
              cases hz
              cases rv with
              | cons rv1 rr =>
                cases rr
                refine call_function_entry_kw PyProof.Rows.kind_sorted PyProof.Rows.plain_sorted PyProof.Rows.entry_sorted (PyProof.Rows.ksk_s1 _ _) ?_
                unfold Builtin.«sorted»
                refine wpAny_bind (m := checkCount "sorted" 1 1 _) (wpAny_pure ?_)
                refine wpAny_bind (collect_any (A := X.A.in1) (I.ok.hd hcalm) I rp rd rv1 e1 fun us vs h' tk I1 hk rls rvs hz => ?_)
                refine wpAny_bind (wpAny_newList ?_ hz)
                have hoL : (h'.push (seqObj "list" us.toArray 0)).get? h'.objs.size = some (seqObj "list" us.toArray 0) := Heap.get?_push_size _ rfl
                have hn : H h'.objs.size = none := I1.hok.fresh (Nat.le_refl _)
                have I2 : Inv X pins σ (upd H h'.objs.size tx) { s with heap := h'.push (seqObj "list" us.toArray 0), toks := tk } := I1.laid (t' := tk) (fun b u q => Heap.get?_push_of_some _ q) (Nat.le_refl _) ⟨trivial, ⟨_, hoL⟩, fun _ _ _ _ => trivial⟩
                show wpAny _ _ _ _ _ { s with heap := h'.push (seqObj "list" us.toArray 0), toks := tk }
                refine wpAny_bind (wpAny_holding (wpAny_call_entry_kw PyProof.Rows.slot_list_sort ⟨_, hoL, rfl⟩ PyProof.Rows.entry_list_sort ?_ (PyProof.Rows.ksk_l1 _ _)))
                refine key_tree (s := { s with heap := h'.push (seqObj "list" us.toArray 0), toks := tk }) hu F (hr.in1.in1) hb hp e2 e3 hok I2 hn hoL rp rls rvs hz fun r2 H2 ov s2 x2 k2 rp2 J2 => ⟨_, rfl, ?_⟩
                refine wpAny_pure ⟨_, rfl, .ref h'.objs.size, _, J2, rfl, p (r2 ++ [h'.objs.size]) _ _ (x2.trans (Ext.one r2 _)) k2 rp2 (.ref ?_)⟩
                rw [List.getElem?_append_right (by
                  have := rp2.len
                  simp only [List.length_append, List.length_cons, List.length_nil] at this
                  omega)]
                have : h3.length - r2.length = 0 := by
                  have := rp2.len
                  simp only [List.length_append, List.length_cons, List.length_nil] at this
                  omega
                rw [this]; rfl
            · rw [if_neg hok] at hz; cases hz
    · cases hz
  · exact p.elim
theorem qe_srtK {k : Nat} {m : List D → HP → R D} {ma : ME} {fx : Str} {pp fp kp : Pos} {ps : List Str} (F : FnM X.prog X.w X.K X.mg X.base k fx ps m) (hr : Room (k + 2) X.A) (hp : ps.length = 1) (hcalm : X.calm = true) (hg : Gl X "sorted") (hm : X.mg "sorted" = none) (hgf : Gl X fx) (ha : QE X W e ma)
    (hdf : (fx == ("__debug__" : Str)) = false := by decide) (hks : (backToKw pos (keywordEach [⟨some "key", .Name fx fp, kp⟩] X.env)).filterMap (·.1) = [Str.ofString "key"] := by rfl)
    (hs : starEach [e] X.env = (false, eval e X.env) :: starEach [] X.env := by rfl) (he : backTo pos (starEach [e] X.env) = (false, eval e X.env) :: backTo pos (starEach [] X.env) := by rfl) (hpl : (backTo pos (starEach [e] X.env)).any (·.1) = false := by rfl) :
    QE X W (.Call (.Name "sorted" pp) [e] [⟨some "key", .Name fx fp, kp⟩] pos) (mSrtK m (mCons ma mNil)) := by
  obtain ⟨f, fd, gm, hk, b, F⟩ := F.ex
  have hu : X.A.units + 64 < cLine := hr.units
  refine (pe_callBK (call_srtK hcalm hu (by rw [hp] at F; exact F) hr b hp) hg hm (by decide +kernel) (qa_cons ha qa_nil hs) (pk_cons (pe_glob (v := .ref f) hgf gm rfl hdf) pk_nil) (by decide) (by decide) he hpl (hks := hks)).imp fun σ H Q q => ?_
  obtain ⟨r, s, h, rp, rs, p⟩ := tM.bind (rr1 := rDs) (m := mCons ma mNil) (k := fun s => srtK m) q
  refine ⟨r, s, h, rp, rs, p.imp fun vs H1 ⟨r1, s1, ds, h1, rp1, rs1, rl1, p1⟩ => ?_⟩
  show _ = _ ∧ _
  refine ⟨rfl, r1, ds, h1, rp1, rl1, ?_⟩
  cases z : srtK m ds h1 with
  | ok d h2 => rw [z] at p1; exact p1
  | exc c fs h2 =>
    unfold srtK at z
    repeat' split at z
    all_goals first | cases z | skip
  | bad => rw [z] at p1; exact p1.elim
end
end PM
end
section
set_option Elab.async false
set_option linter.all false
set_option maxRecDepth 100000
set_option maxHeartbeats 2000000
namespace PM
open PySem PySem.Spec PyProof.Rows L2

section
variable {X : Cx} {K : PySem.W.Frag} {mg : Str → Option Value} {r : List Addr} {H : Hp} {h : HP} {W : WX} {a b c e o : Expr} {es rest : List Expr} {ma mb mc : ME} {t : MA} {pos pos' apos cpos : Pos}

/-! ### tuples that are known as objects: made by a display, by tuple(list), by + -/
theorem fx_laid {pins : List (Addr × Obj)} {s : Shared} {σ : L2.St} {h' : Heap} {tk : Nat} {xs : List D} {vs : List V} {us : List Value} {Q : VK} (I : Inv X pins σ H s) (hk : ∀ b u, s.heap.get? b = some u → h'.get? b = some u) (rp : Rep X.K X.mg r h H) (rl : RelDs X.K X.mg r H xs vs) (rv : Vals vs us) (hz : vs.length ≤ sizeLine) {p : Addr} (hp : s.heap.objs.size ≤ p)
    (ho : h'.get? p = some { cls := .type "tuple", data := .seq us.toArray }) (q : PostV X.K X.mg r H Q (some (.stp xs, h))) : EP X pins σ Q (.ref p) { s with heap := h', toks := tk } := by
  have hn : H p = none := I.hok.fresh hp
  have new : ObjOk X.prog X.w (upd H p (.frz { cls := .type "tuple", data := .seq us.toArray } (.tup vs))) h' p (.frz { cls := .type "tuple", data := .seq us.toArray } (.tup vs)) := ⟨ho, hz, us, rv, ⟨_, ho, rfl, _, rfl⟩⟩
  exact ⟨.ref p, _, I.laid (t' := tk) hk hp new, rfl, q r _ _ (Ext.refl _) (Keep.new hn) (rp.fresh hn) (.stp (.inl ⟨_, upd_same, rfl⟩) (rl.mono (Ext.refl _) (Keep.new hn)))⟩
def mTupF (t : MA) : ME := fun s h => (t s h).bind fun xs h => if xs.length ≤ 1000000 then .ok (.stp xs) h else .bad
theorem qe_tupF {x1} (ht : QA X W es t) : QE X W (.Tuple es x1 pos) (mTupF t) := by
  refine ⟨fun pins s σ H Q I q => ?_⟩
  have q2 := tM.bind (rr1 := rDs) (m := t) (k := fun s xs h => if xs.length ≤ 1000000 then .ok (D.stp xs) h else .bad) q
  refine wpAny_Tuple_spliced (thn (ht.run pos pins s σ H _ I q2) fun us s1 ⟨xs, H1, I1, rv, r1, s2, ds, h1, rp1, rs1, rl1, p1⟩ => ?_)
  by_cases hz : ds.length ≤ 1000000
  · rw [if_pos hz] at p1
    have rl1 : RelDs X.K X.mg r1 H1 ds xs := rl1
    have hl : xs.length ≤ sizeLine := line_of (by rw [← rl1.length]; exact hz)
    refine ⟨by rw [← rv.length]; exact hl, ?_⟩
    exact fx_laid (tk := s1.toks) I1 (fun b u e => Heap.get?_push_of_some _ e) rp1 rl1 rv hl (Nat.le_refl _) (Heap.get?_push_size _ rfl) p1
  · rw [if_neg hz] at p1; exact p1.elim
def toTupF : List D → HP → Option (D × HP) := fun ds h => match ds with
  | [.ref i] => match h[i]? with
    | some (.lst xs) => some (.stp xs, h)
    | some (.rdl xs) => some (.stp xs, h)
    | _ => none
  | _ => none
theorem call_toTupF : CallR X (.type "tuple") (rVs X.K X.mg toTupF) := by
  intro pins s σ H xs us Q I rv ⟨r, ds, h, rp, rl, p⟩
  unfold toTupF at p
  split at p
  · rename_i i
    obtain ⟨v, rfl, rd⟩ := one_of (ds := []) rl
    cases rd with
    | @ref _ ad ea =>
      obtain ⟨u, rfl, rx⟩ := vals1 rv
      cases rx
      have go : ∀ {xs : List D}, (h[i]? = some (.lst xs) ∨ h[i]? = some (.rdl xs)) → PostV X.K X.mg r H Q (some (.stp xs, h)) → wpAny (model X.prog X.w) X.A (call (.type "tuple") [.ref ad]) (EP X pins σ Q) X.xe s := fun {xs} hx p => by
        obtain ⟨vs, sq, rls⟩ := list_at rp ea hx
        obtain ⟨its, rv2, pl, hz⟩ := I.list sq
        have hlen := rv2.length
        refine call_tuple_list pl.isList (fun h' kp => ?_) (by simp only [List.size_toArray]; omega)
        have I1 : Inv X pins σ H { s with heap := h' } := I.kept (t' := s.toks) kp
        exact fx_laid (tk := s.toks) I1 (fun b u e => Heap.get?_push_of_some _ e) rp rls rv2 hz (Nat.le_refl _) (Heap.get?_push_size _ rfl) p
      split at p
      · rename_i xs hx; exact go (.inl hx) p
      · rename_i xs hx; exact go (.inr hx) p
      · exact p.elim
  · exact p.elim
/-- t + u of tuples, both not empty -/
def catF : D → D → HP → Option (D × HP) := fun x y h => match seqD x h, seqD y h with
  | some xs, some ys => if isTup x = true ∧ isTup y = true ∧ xs.length + ys.length ≤ 1000000 then (match xs, ys with | [], _ => some (y, h) | _ :: _, [] => some (x, h) | _ :: _, _ :: _ => some (.stp (xs ++ ys), h)) else none
  | _, _ => none
where isTup : D → Bool
  | .tup _ => true
  | .stp _ => true
  | _ => false
theorem tup_of {d : D} {v : V} {xs : List D} (rp : Rep K mg r h H) (rl : RelD K mg r H d v) (ht : catF.isTup d = true) (e : seqD d h = some xs) : ∃ ad vs, v = .ref ad ∧ SqT K H ad vs ∧ RelDs K mg r H xs vs := by
  obtain ⟨ad, vs, e1, rls, q⟩ := seqD_ok2 rp rl e
  rcases q with ⟨_, i, e2, _⟩ | ⟨q, _⟩
  · subst e2; cases ht
  · exact ⟨ad, vs, e1, q, rls⟩
theorem op_catF : OpR X (binaryOp .Add) (rV2 X.K X.mg catF) := by
  intro pins s σ H x y v u Q I rx ry ⟨r, a, b, h, rp, ra, rb, p⟩
  unfold catF at p
  cases e1 : seqD a h with
  | none => rw [e1] at p; exact p.elim
  | some xs =>
    cases e2 : seqD b h with
    | none => rw [e1, e2] at p; exact p.elim
    | some ys =>
      rw [e1, e2] at p
      dsimp only at p
      split at p
      · rename_i hc
        obtain ⟨t1, t2, hz⟩ := hc
        obtain ⟨ad, vs, rfl, sq1, rl1⟩ := tup_of rp ra t1 e1
        obtain ⟨bd, ws, rfl, sq2, rl2⟩ := tup_of rp rb t2 e2
        cases rx
        cases ry
        obtain ⟨its, r1, p1, _⟩ := I.tuple sq1
        obtain ⟨its2, r2, p2, _⟩ := I.tuple sq2
        have hz' : vs.length + ws.length ≤ sizeLine := line_of (by rw [← rl1.length, ← rl2.length]; exact hz)
        cases xs with
        | nil =>
          obtain rfl := (nil_of rl1).mp rfl
          cases r1
          exact cat_tup0 p1 p2 ⟨.ref bd, H, I, rfl, p.here rp rb⟩
        | cons x0 xs =>
        cases ys with
        | nil => exact HT.cat_tup p1 p2 (fun z => absurd ((nil_of rl1).mpr (r1.nil_iff.mp z)) (by simp)) (fun z => ⟨.ref ad, H, I, rfl, p.here rp ra⟩) (fun z => absurd (r2.nil_iff.mpr ((nil_of rl2).mp rfl)) z) (by rw [← r1.length, ← r2.length]; exact hz')
        | cons y0 ys =>
        refine HT.cat_tup p1 p2 (fun z => absurd ((nil_of rl1).mpr (r1.nil_iff.mp z)) (by simp)) (fun z => absurd ((nil_of rl2).mpr (r2.nil_iff.mp z)) (by simp)) (fun z => ?_) (by rw [← r1.length, ← r2.length]; exact hz')
        exact fx_laid (tk := s.toks) I (fun b u e => Heap.get?_push_of_some _ e) rp (rl1.append rl2) (r1.append r2) (by rw [List.length_append]; exact hz') (Nat.le_refl _) (Heap.get?_push_size _ rfl) p
      · exact p.elim

/-! ### methods of tuples, too -/
def tyB2 (T : String) (d : D) (h : HP) : Bool := match d with
  | .stp _ => T == "tuple"
  | _ => tyB T d h
theorem tyB2_ok {pins : List (Addr × Obj)} {s : Shared} {σ : L2.St} {T : String} {d : D} {v : V} {u : Value} (I : Inv X pins σ H s) (rp : Rep X.K X.mg r h H) (rl : RelD X.K X.mg r H d v) (rv : RelV v u) (e : tyB2 T d h = true) :
    s.TypeIs u T ∧ ∀ a, u = .ref a → ∃ ob, s.heap.get? a = some ob ∧ ob.dict = none := by
  have rl0 := rl
  unfold tyB2 at e
  cases rl with
  | @stp xs ad vs sq rls =>
    obtain rfl : u = Value.ref ad := rv
    obtain rfl : T = "tuple" := beq_iff_eq.mp e
    rcases sq with ⟨o, q, hd⟩ | ⟨o, its, n, e1, e2, e3, e4, e5, hd⟩
    · obtain ⟨q1, _, its, _, ob, z1, z2, _⟩ := I.hok ad _ q
      rw [q1] at z1
      cases z1
      exact ⟨⟨o, q1, z2⟩, fun a z => by cases z; exact ⟨o, q1, hd⟩⟩
    · exact tyV_is I (x := .ref ad) rfl (.inr (.inl ⟨rfl, o, e1, e2, hd⟩))
  | _ => exact tyV_is I rv (tyB_ok rp rl0 e)
def mMethG (T : String) (g : D → List D → HP → Option (D × HP)) (a : ME) (t : MA) : ME := fun s h => (a s h).bind fun x h => bif tyB2 T x h then (t s h).bind fun xs h => ofO (g x xs h) else .bad
theorem qe_bmG {T id : String} {name : Str} {g : D → List D → HP → Option (D × HP)} (pa : PlainAttrs T) (slot : Slot T name id) (hty : typeOf (.builtin id) = pure (.type "method_descriptor")) (hm : MtR X id (rVm X.K X.mg g)) (ho : QE X W o ma) (ha : QA X W (e :: es) t)
    (hbase : attributeBase o name X.env (eval o X.env) = eval o X.env := by rfl)
    (hfew : ((backTo cpos (starEach (e :: es) X.env)).all (fun x => !x.1) && (backToKw cpos (keywordEach [] X.env)).all (fun x => x.1.isSome) && decide ((e :: es).length + ([] : List Keyword).length + (if ([] : List Keyword).isEmpty then 0 else 1) < 30)) = true := by rfl)
    (hline : (apos.endLine == cpos.line) = true := by rfl) (hs : starEach (e :: es) X.env = (false, eval e X.env) :: starEach es X.env := by rfl) (hplain : (backTo cpos (starEach es X.env)).any (·.1) = false := by rfl) :
    QE X W (.Call (.Attribute o name apos) (e :: es) [] cpos) (mMethG T g ma t) := by
  refine ⟨fun pins s σ H Q I q => ?_⟩
  have q2 := tM.bind (rr1 := rD) (m := ma) (k := fun s x h => bif tyB2 T x h then (t s h).bind fun xs h => ofO (g x xs h) else R.bad) q
  refine wpAny_Call_method_late hbase hfew hline rfl (thn (ho.run pins s σ H _ I q2) fun v s1 ⟨x, H1, I1, rv, r1, s2, d, h1, rp1, rs1, rl1, p1⟩ => ?_)
  cases z : tyB2 T d h1 with
  | false => rw [z] at p1; exact p1.elim
  | true =>
    rw [z] at p1
    obtain ⟨k1, k2⟩ := tyB2_ok I1 rp1 rl1 rv z
    have hA := ha.run cpos pins s1 σ H1 _ I1 ⟨r1, s2, h1, rp1, rs1, (Post.bind (rr1 := rDs) p1).imp (Q' := fun us H2 => ∃ r2 ds h2, Rep X.K X.mg r2 h2 H2 ∧ RelD X.K X.mg r2 H2 d x ∧ RelDs X.K X.mg r2 H2 ds us ∧ PostV X.K X.mg r2 H2 Q (g d ds h2)) fun y H2 ⟨r2, ds, h2, e2, k2, rp2, rl2, p2⟩ => ⟨r2, ds, h2, rp2, rl1.mono e2 k2, rl2, p2.ofO⟩⟩
    refine ⟨T, id, pa, slot, hty, k1, k2, ?_⟩
    rw [hs] at hA ⊢
    refine Calls.callWith_builtin (by show (false || (backTo cpos (starEach es X.env)).any (·.1)) = false; rw [hplain]; rfl) (Calls.evalArgs_plain (thn hA fun us s3 ⟨vs, H2, I2, rvs, r2, ds, h2, rp2, rd2, rls2, p2⟩ => ?_))
    exact hm pins s3 σ H2 x vs v us Q I2 rv rvs ⟨r2, d, ds, h2, rp2, rd2, rls2, p2⟩

/-! ### x.index(text) -/
def strsD : List D → Option (List Str)
  | [] => some []
  | .str x :: ds => (strsD ds).map (x :: ·)
  | _ :: _ => none
theorem strsD_rel : ∀ {ds : List D} {vs : List V} {ys : List Str}, RelDs K mg r H ds vs → strsD ds = some ys → vs = ys.map V.str
  | _, _, _, .nil, e => by cases e; rfl
  | _, _, _, .cons (x := d) a t, e => by
    cases a with
    | str x =>
      obtain ⟨zs, e1, e2⟩ := Option.map_eq_some_iff.mp e
      subst e2
      rw [strsD_rel t e1]; rfl
    | _ => cases e
def idxOf (z : Str) : List Str → Option Nat
  | [] => none
  | y :: ys => if y = z then some 0 else (idxOf z ys).map (· + 1)
theorem idxOf_ok {z : Str} : ∀ {ys : List Str} {j : Nat}, idxOf z ys = some j → ys[j]? = some z ∧ ∀ m, m < j → ys[m]? ≠ some z
  | [], j, e => by cases e
  | y :: ys, j, e => by
    unfold idxOf at e
    by_cases hy : y = z
    · rw [if_pos hy] at e
      cases e
      exact ⟨by simp [hy], fun m hm => absurd hm (Nat.not_lt_zero _)⟩
    · rw [if_neg hy] at e
      obtain ⟨k, e1, e2⟩ := Option.map_eq_some_iff.mp e
      subst e2
      obtain ⟨q1, q2⟩ := idxOf_ok e1
      refine ⟨by simpa using q1, fun m hm => ?_⟩
      cases m with
      | zero => simpa using hy
      | succ m => simpa using q2 m (by omega)
/-- of a list, of a tuple -/
def indexG (tp : Bool) : D → List D → HP → Option (D × HP) := fun x ds h => match ds with
  | [.str z] => if catF.isTup x = tp then (match seqD x h with
    | some xs => match strsD xs with
      | some ys => (idxOf z ys).map fun j => (.int j, h)
      | none => none
    | none => none) else none
  | _ => none
theorem indexG_in {tp : Bool} {x : D} {ds : List D} {p : Option (D × HP)} {Q : VK} (e : indexG tp x ds h = p) (q : PostV K mg r H Q p) : ∃ z xs ys j, ds = [.str z] ∧ catF.isTup x = tp ∧ seqD x h = some xs ∧ strsD xs = some ys ∧ idxOf z ys = some j ∧ PostV K mg r H Q (some (.int j, h)) := by
  subst e
  unfold indexG at q
  split at q
  · rename_i z
    split at q
    · rename_i ht
      split at q
      · rename_i xs e1
        split at q
        · rename_i ys e2
          cases e3 : idxOf z ys with
          | none => rw [e3] at q; exact q.elim
          | some j => rw [e3] at q; exact ⟨z, xs, ys, j, rfl, ht, e1, e2, e3, q⟩
        · exact q.elim
      · exact q.elim
    · exact q.elim
  · exact q.elim
theorem flat_strs2 (ys : List Str) : (ys.map V.str).all flatV = true := by
  rw [List.all_eq_true]
  intro v hv
  obtain ⟨y, _, rfl⟩ := List.mem_map.mp hv
  rfl
theorem mt_indexL : MtR X "list.index" (rVm X.K X.mg (indexG false)) := by
  intro pins s σ H x xs v us Q I rx rv ⟨r, d, ds, h, rp, rl, rls, p⟩
  obtain ⟨z, xs', ys, j, rfl, ht, e1, e2, e3, p⟩ := indexG_in rfl p
  obtain ⟨w, rfl, rw⟩ := one_of (ds := []) rls
  obtain ⟨ad, vs, rfl, rlx, q⟩ := seqD_ok2 rp rl e1
  cases rw
  rcases q with ⟨sq, _⟩ | ⟨_, hd⟩
  · obtain rfl := strsD_rel rlx e2
    obtain ⟨i1, i2⟩ := idxOf_ok e3
    refine mt_index pins s σ H _ _ v us Q I rx rv ⟨ad, ys.map V.str, .str z, j, .str z, rfl, rfl, sq, rfl, flat_strs2 ys, by rw [List.getElem?_map, i1]; rfl, by simp [eqV], fun m z' hm hz' => ?_, p.here rp (.int _)⟩
    rw [List.getElem?_map] at hz'
    obtain ⟨y, hy, rfl⟩ := Option.map_eq_some_iff.mp hz'
    have : y ≠ z := fun e => i2 m hm (by rw [hy, e])
    simp [eqV, this]
  · rcases hd with rfl | rfl <;> cases ht
theorem mt_indexT : MtR X "tuple.index" (rVm X.K X.mg (indexG true)) := by
  intro pins s σ H x xs v us Q I rx rv ⟨r, d, ds, h, rp, rl, rls, p⟩
  obtain ⟨z, xs', ys, j, rfl, ht, e1, e2, e3, p⟩ := indexG_in rfl p
  obtain ⟨w, rfl, rw⟩ := one_of (ds := []) rls
  obtain ⟨ad, vs, rfl, rlx, q⟩ := seqD_ok2 rp rl e1
  cases rw
  rcases q with ⟨_, i, rfl, _⟩ | ⟨sq, hd⟩
  · cases ht
  · obtain rfl := strsD_rel rlx e2
    obtain ⟨i1, i2⟩ := idxOf_ok e3
    exact mt_tup_index pins s σ H _ _ v us Q I rx rv ⟨ad, ys, z, j, rfl, rfl, sq, i1, i2, p.here rp (.int _)⟩
/-- which of the two the receiver has is told when it runs -/
def mIdx (a : ME) (t : MA) : ME := fun s h => (a s h).bind fun x h => if catF.isTup x = true then (bif tyB2 "tuple" x h then (t s h).bind fun xs h => ofO (indexG true x xs h) else .bad) else (bif tyB2 "list" x h then (t s h).bind fun xs h => ofO (indexG false x xs h) else .bad)
theorem qe_idx (ho : QE X W o ma) (ha : QA X W (e :: es) t)
    (hbase : attributeBase o "index" X.env (eval o X.env) = eval o X.env := by rfl)
    (hfew : ((backTo cpos (starEach (e :: es) X.env)).all (fun x => !x.1) && (backToKw cpos (keywordEach [] X.env)).all (fun x => x.1.isSome) && decide ((e :: es).length + ([] : List Keyword).length + (if ([] : List Keyword).isEmpty then 0 else 1) < 30)) = true := by rfl)
    (hline : (apos.endLine == cpos.line) = true := by rfl) (hs : starEach (e :: es) X.env = (false, eval e X.env) :: starEach es X.env := by rfl) (hplain : (backTo cpos (starEach es X.env)).any (·.1) = false := by rfl) :
    QE X W (.Call (.Attribute o "index" apos) (e :: es) [] cpos) (mIdx ma t) := by
  have hT := qe_bmG (W := W) (ma := ma) (t := t) (apos := apos) (cpos := cpos) PySem.F.plainAttrs_tuple PySem.F.slot_tuple_index PySem.F.type_tuple_index mt_indexT ho ha hbase hfew hline hs hplain
  have hL := qe_bmG (W := W) (ma := ma) (t := t) (apos := apos) (cpos := cpos) PySem.F.plainAttrs_list PySem.F.slot_list_index PySem.F.type_list_index mt_indexL ho ha hbase hfew hline hs hplain
  refine ⟨fun pins s σ H Q I q => ?_⟩
  obtain ⟨r, s2, h, rp, rs, p⟩ := q
  unfold mIdx at p
  by_cases hd : ∃ x h1, ma s2 h = .ok x h1 ∧ catF.isTup x = true
  · obtain ⟨x, h1, e1, e2⟩ := hd
    refine hT.run pins s σ H Q I ⟨r, s2, h, rp, rs, ?_⟩
    unfold mMethG
    rw [e1] at p ⊢
    dsimp only [R.bind] at p ⊢
    rw [if_pos e2] at p
    exact p
  · refine hL.run pins s σ H Q I ⟨r, s2, h, rp, rs, ?_⟩
    unfold mMethG
    cases e1 : ma s2 h with
    | ok x h1 =>
      rw [e1] at p
      dsimp only [R.bind] at p ⊢
      rw [if_neg (fun z => hd ⟨x, h1, e1, z⟩)] at p
      exact p
    | exc c fs h1 => rw [e1] at p; exact p
    | bad => rw [e1] at p; exact p

/-! ### sum, min, max of a list of numbers -/
def intsD : List D → Option (List Int)
  | [] => some []
  | .int x :: ds => (intsD ds).map (x :: ·)
  | _ :: _ => none
theorem intsD_rel : ∀ {ds : List D} {vs : List V} {ys : List Int}, RelDs K mg r H ds vs → intsD ds = some ys → vs = ys.map V.int
  | _, _, _, .nil, e => by cases e; rfl
  | _, _, _, .cons (x := d) a t, e => by
    cases a with
    | int x =>
      obtain ⟨zs, e1, e2⟩ := Option.map_eq_some_iff.mp e
      subst e2
      rw [intsD_rel t e1]; rfl
    | _ => cases e
def listI (ds : List D) (h : HP) : Option (List Int) := match ds with
  | [.ref i] => match h[i]? with
    | some (.lst xs) => intsD xs
    | some (.rdl xs) => intsD xs
    | _ => none
  | _ => none
theorem listI_ok {ds : List D} {vs : List V} {ns : List Int} (rp : Rep K mg r h H) (rl : RelDs K mg r H ds vs) (e : listI ds h = some ns) : ∃ ad, vs = [.ref ad] ∧ SqL K H ad (ns.map V.int) := by
  unfold listI at e
  split at e
  · rename_i i
    obtain ⟨v, rfl, rd⟩ := one_of (ds := []) rl
    cases rd with
    | @ref _ ad ea =>
      split at e
      · rename_i xs hx
        obtain ⟨vs, sq, rls⟩ := list_at rp ea (.inl hx)
        exact ⟨ad, rfl, by rw [← intsD_rel rls e]; exact sq⟩
      · rename_i xs hx
        obtain ⟨vs, sq, rls⟩ := list_at rp ea (.inr hx)
        exact ⟨ad, rfl, by rw [← intsD_rel rls e]; exact sq⟩
      · cases e
  · cases e
def least : Int → List Int → Int
  | x, [] => x
  | x, y :: ys => least (if y < x then y else x) ys
def most : Int → List Int → Int
  | x, [] => x
  | x, y :: ys => most (if x < y then y else x) ys
theorem least_ok : ∀ (ys : List Int) (x : Int), (least x ys = x ∨ least x ys ∈ ys) ∧ least x ys ≤ x ∧ ∀ y ∈ ys, least x ys ≤ y
  | [], x => ⟨.inl rfl, Int.le_refl _, fun _ h => by cases h⟩
  | y :: ys, x => by
    obtain ⟨q1, q2, q3⟩ := least_ok ys (if y < x then y else x)
    unfold least
    by_cases hy : y < x
    · rw [if_pos hy] at q1 q2 q3 ⊢
      refine ⟨.inr ?_, by omega, fun z hz => ?_⟩
      · rcases q1 with q1 | q1
        · rw [q1]; exact List.mem_cons_self
        · exact List.mem_cons_of_mem _ q1
      · rcases List.mem_cons.mp hz with rfl | hz
        · exact q2
        · exact q3 z hz
    · rw [if_neg hy] at q1 q2 q3 ⊢
      refine ⟨?_, q2, fun z hz => ?_⟩
      · rcases q1 with q1 | q1
        · exact .inl q1
        · exact .inr (List.mem_cons_of_mem _ q1)
      · rcases List.mem_cons.mp hz with rfl | hz
        · omega
        · exact q3 z hz
theorem most_ok : ∀ (ys : List Int) (x : Int), (most x ys = x ∨ most x ys ∈ ys) ∧ x ≤ most x ys ∧ ∀ y ∈ ys, y ≤ most x ys
  | [], x => ⟨.inl rfl, Int.le_refl _, fun _ h => by cases h⟩
  | y :: ys, x => by
    obtain ⟨q1, q2, q3⟩ := most_ok ys (if x < y then y else x)
    unfold most
    by_cases hy : x < y
    · rw [if_pos hy] at q1 q2 q3 ⊢
      refine ⟨.inr ?_, by omega, fun z hz => ?_⟩
      · rcases q1 with q1 | q1
        · rw [q1]; exact List.mem_cons_self
        · exact List.mem_cons_of_mem _ q1
      · rcases List.mem_cons.mp hz with rfl | hz
        · exact q2
        · exact q3 z hz
    · rw [if_neg hy] at q1 q2 q3 ⊢
      refine ⟨?_, q2, fun z hz => ?_⟩
      · rcases q1 with q1 | q1
        · exact .inl q1
        · exact .inr (List.mem_cons_of_mem _ q1)
      · rcases List.mem_cons.mp hz with rfl | hz
        · omega
        · exact q3 z hz
def sumL : List D → HP → Option (D × HP) := fun ds h => (listI ds h).map fun ns => (.int ns.sum, h)
def minL : List D → HP → Option (D × HP) := fun ds h => match listI ds h with
  | some (n :: ns) => some (.int (least n ns), h)
  | some [] => none
  | none => min2G ds h
def maxL : List D → HP → Option (D × HP) := fun ds h => match listI ds h with
  | some (n :: ns) => some (.int (most n ns), h)
  | some [] => none
  | none => max2G ds h
theorem call_sumL (hc : X.calm = true) : CallR X (.builtin "sum") (rVs X.K X.mg sumL) := by
  intro pins s σ H xs us Q I rv ⟨r, ds, h, rp, rl, p⟩
  unfold sumL at p
  cases e : listI ds h with
  | none => rw [e] at p; exact p.elim
  | some ns =>
    rw [e] at p
    obtain ⟨ad, rfl, sq⟩ := listI_ok rp rl e
    exact cr_sum hc pins s σ H _ us Q I rv ⟨ad, ns, rfl, sq, p.here rp (.int _)⟩
theorem call_minL (hc : X.calm = true) : CallR X (.builtin "min") (rVs X.K X.mg minL) := by
  intro pins s σ H xs us Q I rv ⟨r, ds, h, rp, rl, p⟩
  unfold minL at p
  split at p
  · rename_i n ns e
    obtain ⟨ad, rfl, sq⟩ := listI_ok rp rl e
    refine cr_min hc pins s σ H _ us Q I rv ⟨ad, _, rfl, sq, by simp, fun m hm hle => ?_⟩
    obtain ⟨q1, q2, q3⟩ := least_ok ns n
    have h1 : least n ns ∈ n :: ns := by
      rcases q1 with q1 | q1
      · rw [q1]; exact List.mem_cons_self
      · exact List.mem_cons_of_mem _ q1
    have h2 : least n ns ≤ m := by
      rcases List.mem_cons.mp hm with rfl | hm
      · exact q2
      · exact q3 m hm
    have : m = least n ns := Int.le_antisymm (hle _ h1) h2
    rw [this]
    exact p.here rp (.int _)
  · exact p.elim
  · exact call_min2G hc pins s σ H xs us Q I rv ⟨r, ds, h, rp, rl, p⟩
theorem call_maxL (hc : X.calm = true) : CallR X (.builtin "max") (rVs X.K X.mg maxL) := by
  intro pins s σ H xs us Q I rv ⟨r, ds, h, rp, rl, p⟩
  unfold maxL at p
  split at p
  · rename_i n ns e
    obtain ⟨ad, rfl, sq⟩ := listI_ok rp rl e
    refine cr_max hc pins s σ H _ us Q I rv ⟨ad, _, rfl, sq, by simp, fun m hm hle => ?_⟩
    obtain ⟨q1, q2, q3⟩ := most_ok ns n
    have h1 : most n ns ∈ n :: ns := by
      rcases q1 with q1 | q1
      · rw [q1]; exact List.mem_cons_self
      · exact List.mem_cons_of_mem _ q1
    have h2 : m ≤ most n ns := by
      rcases List.mem_cons.mp hm with rfl | hm
      · exact q2
      · exact q3 m hm
    have : m = most n ns := Int.le_antisymm h2 (hle _ h1)
    rw [this]
    exact p.here rp (.int _)
  · exact p.elim
  · exact call_max2G hc pins s σ H xs us Q I rv ⟨r, ds, h, rp, rl, p⟩

/-! ### lists: times, slices, list(..) -/
def mulL : D → D → HP → Option (D × HP) := fun x y h => match x, y with
  | .ref i, .int k => match h[i]? with
    | some (.lst xs) => if 0 ≤ k ∧ k ≤ 1000000 ∧ xs.length * k.toNat ≤ 1000000 then some (.ref h.length, h ++ [.lst (List.replicate k.toNat xs).flatten]) else none
    | _ => none
  | _, _ => mulG x y h
theorem rep_rel {xs : List D} {vs : List V} (q : RelDs K mg r H xs vs) : ∀ n : Nat, RelDs K mg r H (List.replicate n xs).flatten (List.replicate n vs).flatten
  | 0 => .nil
  | n + 1 => by rw [List.replicate_succ, List.replicate_succ, List.flatten_cons, List.flatten_cons]; exact q.append (rep_rel q n)
theorem op_mulL : OpR X (binaryOp .Mult) (rV2 X.K X.mg mulL) := by
  intro pins s σ H x y v u Q I rx ry ⟨r, a, b, h, rp, ra, rb, p⟩
  unfold mulL at p
  split at p
  · rename_i i k
    cases ra with
    | @ref _ ad ea =>
      cases rb
      split at p
      · rename_i xs hx
        by_cases hz : 0 ≤ k ∧ k ≤ 1000000 ∧ xs.length * k.toNat ≤ 1000000
        · rw [if_pos hz] at p
          obtain ⟨vs, q, rls⟩ := rp.obs _ _ ad hx ea
          exact op_rep pins s σ H _ _ v u Q I rx ry ⟨ad, k, vs, rfl, rfl, q, by omega, by omega, line_of (by rw [← rls.length]; exact hz.2.2), fun p' hp => p.lst rp (rep_rel rls _) hp⟩
        · rw [if_neg hz] at p; exact p.elim
      · exact p.elim
  · exact op_mulG pins s σ H x y v u Q I rx ry ⟨r, a, b, h, rp, ra, rb, p⟩
def cutD (xs : List D) (lo hi : Option Int) : List D := (xs.drop (HT.sIx xs.length 0 lo)).take (HT.sIx xs.length xs.length hi - HT.sIx xs.length 0 lo)
def slL : D → Option Int → Option Int → HP → Option (D × HP) := fun x lo hi h => match x with
  | .ref i => match h[i]? with
    | some (.lst xs) => some (.ref h.length, h ++ [.lst (cutD xs lo hi)])
    | some (.rdl xs) => some (.ref h.length, h ++ [.lst (cutD xs lo hi)])
    | _ => none
  | _ => slG x lo hi h
theorem take_rel {xs : List D} {vs : List V} (q : RelDs K mg r H xs vs) : ∀ n : Nat, RelDs K mg r H (xs.take n) (vs.take n) := by
  intro n
  induction n generalizing xs vs with
  | zero => simp; exact .nil
  | succ n ih => cases q with
    | nil => exact .nil
    | cons a t => exact .cons a (ih t)
theorem drop_rel {xs : List D} {vs : List V} (q : RelDs K mg r H xs vs) : ∀ n : Nat, RelDs K mg r H (xs.drop n) (vs.drop n) := by
  intro n
  induction n generalizing xs vs with
  | zero => exact q
  | succ n ih => cases q with
    | nil => simp; exact .nil
    | cons a t => exact ih t
theorem cut_rel {xs : List D} {vs : List V} (q : RelDs K mg r H xs vs) (lo hi : Option Int) : RelDs K mg r H (cutD xs lo hi) (cutV vs lo hi) := by
  unfold cutD cutV
  rw [q.length]
  exact take_rel (drop_rel q _) _
theorem sl_L : SlR X (rVsl X.K X.mg slL) := by
  intro pins s σ H x v vl vu lo hi sl Q I rx hs pl pu ⟨r, d, h, rp, rl, p⟩
  unfold slL at p
  cases rl with
  | @ref i ad ea =>
    dsimp only at p
    have go : ∀ {xs : List D}, (h[i]? = some (.lst xs) ∨ h[i]? = some (.rdl xs)) → PostV X.K X.mg r H Q (some (.ref h.length, h ++ [.lst (cutD xs lo hi)])) → ∃ vs, SqL X.K H ad vs ∧ ∀ p, H p = none → Q (.ref p) (upd H p (.lst (cutV vs lo hi))) := fun {xs} hx p => by
      obtain ⟨vs, sq, rls⟩ := list_at rp ea hx
      exact ⟨vs, sq, fun p' hp => p.lst rp (cut_rel rls lo hi) hp⟩
    have fin : (∃ vs, SqL X.K H ad vs ∧ ∀ p, H p = none → Q (.ref p) (upd H p (.lst (cutV vs lo hi)))) → _ := fun q => sl_list pins s σ H _ v vl vu lo hi sl Q I rx hs pl pu (let ⟨vs, a, b⟩ := q; ⟨ad, vs, rfl, a, b⟩)
    split at p
    · rename_i xs hx; exact fin (go (.inl hx) p)
    · rename_i xs hx; exact fin (go (.inr hx) p)
    · exact p.elim
  | str z => exact sl_G pins s σ H _ v vl vu lo hi sl Q I rx hs pl pu ⟨r, _, h, rp, .str z, p⟩
  | _ => exact p.elim
def toLst : List D → HP → Option (D × HP) := fun ds h => match ds with
  | [d] => (seqD d h).map fun xs => (.ref h.length, h ++ [.lst xs])
  | _ => none
theorem call_toLst : CallR X (.type "list") (rVs X.K X.mg toLst) := by
  intro pins s σ H xs us Q I rv ⟨r, ds, h, rp, rl, p⟩
  unfold toLst at p
  split at p
  · rename_i d
    obtain ⟨v, rfl, rd⟩ := one_of (ds := []) rl
    cases e : seqD d h with
    | none => rw [e] at p; exact p.elim
    | some xs =>
      rw [e] at p
      obtain ⟨ad, vs, rfl, sq, rls⟩ := seqD_ok rp rd e
      exact call_list_of pins s σ H _ us Q I rv ⟨ad, vs, rfl, sq.symm, fun l hl => p.lst rp rls hl⟩
  · exact p.elim

/-! ### tuple(reversed(x)) -/
theorem walks_rt {prog : Program} {w : World} {A : Around} (hh : A.handled = none) (it t : Addr) (hne : t ≠ it) (items : Array Value) (hz : items.size ≤ sizeLine) :
    Walks prog w A it [it, t] [it] items.size (fun i v => items[items.size - 1 - i]? = some v) (fun i h => i ≤ items.size ∧ RT.IsRt h it t ((items.size : Int) - 1 - (i : Int)) ∧ IsTup h t items) where
  sub := fun b hb => by simp at hb; simp [hb]
  frame := fun _ _ _ x hk => ⟨x.1, x.2.1.at fun o e => hk it (by simp) o e, by
    obtain ⟨o, ho, q⟩ := x.2.2
    exact ⟨o, hk t (by simp) o ho, q⟩⟩
  item := fun i s Q E hi x hQ => by
    obtain ⟨_, hit, ht⟩ := x
    have ei : (items.size : Int) - 1 - (i : Int) = ((items.size - 1 - i : Nat) : Int) := by omega
    rw [ei] at hit
    have hx : items[items.size - 1 - i]? = some (items[items.size - 1 - i]'(by omega)) := Array.getElem?_eq_getElem (by omega)
    refine RT.next_rt_item hit ht hx hz fun h' q sb => hQ _ h' _ hx ⟨hi, ?_, ?_⟩ fun b o hb e => (sb.2 b (by simpa using hb)).trans e
    · have e2 : ((items.size - 1 - i : Nat) : Int) - 1 = (items.size : Int) - 1 - ((i + 1 : Nat) : Int) := by omega
      rw [e2] at q; exact q
    · obtain ⟨o, ho, z⟩ := ht
      exact ⟨o, (sb.2 t hne).trans ho, z⟩
  done := fun s Q E x hQ => by
    obtain ⟨_, hit, ht⟩ := x
    have ei : (items.size : Int) - 1 - (items.size : Int) = -1 := by omega
    rw [ei] at hit
    exact RT.next_rt_end hh hit fun h' eb => hQ h' s.toks fun b o hb e => eb b o (by simpa using hb) e
  self := fun i s Q E x hQ => RT.iter_rt x.2.1 hQ
theorem slot_hint : Slot "reversed" "__length_hint__" "reversed.__length_hint__" := Slot.of (owner := "reversed") (n := "__length_hint__") (by rw [typeLookup_type, builtinLookup_eq_fast]; kernel_rfl) (by decide +kernel) (by decide +kernel) (by decide +kernel) (.inr (by decide +kernel)) (by rw [isSubtype_type]; kernel_rfl)
theorem args_hint (a : Value) : argsOk "reversed.__length_hint__" ⟨[a], []⟩ := by
  unfold argsOk
  rw [signature?_of (id := "reversed.__length_hint__") (n := ['_', '_', 't', 'n', 'i', 'h', '_', 'h', 't', 'g', 'n', 'e', 'l', '_', '_']) (o := ['d', 'e', 's', 'r', 'e', 'v', 'e', 'r']) (by kernel_rfl) RT.owner_rt]
  kernel_rfl
theorem call_hint {prog : Program} {w : World} {A : Around} {E : Value → Shared → Prop} {s : Shared} {it t : Addr} {items : Array Value} {Q : Value → Shared → Prop} (hit : RT.IsRt s.heap it t ((items.size : Int) - 1)) (ht : IsTup s.heap t items)
    (hlen : ∀ (A : Around) (E : Value → Shared → Prop) (Q : Value → Shared → Prop), Q (.int items.size (s.toks + 1)) { s with toks := s.toks + 1 + 1 } → wpAny (model prog w) A (call (.builtin "len") [.ref t]) Q E s)
    (hQ : ∀ (n : Int) (t tk : Nat), n = items.size → Q (.int n t) { s with toks := tk }) : wpAny (model prog w) A (call (.builtin "reversed.__length_hint__") [.ref it]) Q E s := by
  obtain ⟨o, ho, hc, hd⟩ := id hit
  refine wpAny_call_entry slot_hint hit.typeIs (entryFor_of_tree (b := Builtin.«reversed.__length_hint__») (by kernel_rfl)) ?_ (args_hint _)
  unfold Builtin.«reversed.__length_hint__»
  refine wpAny_bind (wpAny_of_eq (a := Value.ref it) rfl ?_)
  refine wpAny_bind (wpAny_field ho hd (x := .ref t) rfl ?_)
  refine wpAny_ite_split (fun h => absurd (show false = true from h) (by decide)) fun _ => ?_
  refine wpAny_bind (hlen _ _ _ ?_)
  refine wpAny_bind (wpAny_of_eq (a := some ((items.size : Nat) : Int)) rfl ?_)
  refine wpAny_bind (wpAny_field (s := { s with toks := s.toks + 1 + 1 }) ho hd (x := rawInt ((items.size : Int) - 1)) rfl ?_)
  refine wpAny_ite_split (fun h => absurd h (by omega)) fun _ => ?_
  refine wpAny_bind (wpAny_mkInt ?_)
  exact wpAny_pure ⟨_, rfl, hQ _ _ _ (by omega)⟩
theorem hint_rt {prog : Program} {w : World} {A : Around} {E : Value → Shared → Prop} {s : Shared} {it t : Addr} {items : Array Value} {Q : Bool → Shared → Prop} (hit : RT.IsRt s.heap it t ((items.size : Int) - 1)) (ht : IsTup s.heap t items) (hz : items.size ≤ sizeLine)
    (hlen : ∀ (A : Around) (E : Value → Shared → Prop) (Q : Value → Shared → Prop), Q (.int items.size (s.toks + 1)) { s with toks := s.toks + 1 + 1 } → wpAny (model prog w) A (call (.builtin "len") [.ref t]) Q E s)
    (hQ : ∀ (b : Bool) (tk : Nat), Q b { s with toks := tk }) : wpAny (model prog w) A (Builtin.List.listLengthHint (.ref it)) Q E s := by
  have hT : s.TypeIs (.ref it) "reversed" := hit.typeIs
  rw [sizeLine_eq] at hz
  unfold Builtin.List.listLengthHint
  refine wpAny_bind (wpAny_specialOf hT (by rw [typeLookup_type, builtinLookup_eq_fast]; kernel_rfl : typeLookup (.type "reversed") "__len__" = pure none) ?_)
  show wpAny _ A (specialOf (Value.ref it) (Str.ofString "__length_hint__") >>= _) _ _ _
  refine wpAny_bind (wpAny_specialOf hT slot_hint.lookup ?_)
  generalize hid : ("reversed.__length_hint__" : String) = id0
  wp_delta
  rw [show splitId id0 = some ("reversed", "__length_hint__") from by subst hid; decide +kernel]
  subst hid
  refine wpAny_bind (wpAny_isInstance (b := true) hT (by rw [isSubtype_type]; kernel_rfl) ?_)
  refine wpAny_ite_split (fun hab => absurd hab (by decide)) (fun _ => ?_)
  refine wpAny_ite_split (fun h => absurd h (by decide +kernel)) (fun _ => ?_)
  refine wpAny_bind (wpAny_rule ?_)
  refine wpAny_bind (wpAny_of_eq (slot_hint.bind _) ?_)
  refine wpAny_bind (wpAny_attempt (call_hint hit ht hlen fun n t' tk hn => ?_))
  have hl : Builtin.List.listTooLong n.toNat = false := by simp [Builtin.List.listTooLong, sizeLine]; omega
  refine wpAny_bind (m := asInt? _) (wpAny_pure ?_)
  refine wpAny_ite_split (fun h => absurd h ?_) (fun _ => ?_)
  · simp [Builtin.List.listFitsIndex]; omega
  refine wpAny_ite_split (fun h => absurd h (by omega)) (fun _ => ?_)
  exact wpAny_ite_split (fun h => absurd h (by rw [hl]; decide)) (fun _ => wpAny_pure (hQ _ _))
end
end PM
end
section
set_option Elab.async false
set_option linter.all false
set_option maxRecDepth 100000
set_option maxHeartbeats 2000000
namespace PM
open PySem PySem.Spec PyProof.Rows L2

/-! ### tuple(reversed(a tuple)) -/
section
variable {prog : Program} {w : World} {A : Around} {E : Value → Shared → Prop} {s : Shared}
def RtLen (prog : Program) (w : World) (s : Shared) (t : Addr) (items : Array Value) : Prop :=
  ∀ (h' : Heap) (tk : Nat) (A : Around) (E : Value → Shared → Prop) (Q : Value → Shared → Prop), (∀ o, s.heap.get? t = some o → h'.get? t = some o) → Q (.int items.size (tk + 1)) { s with heap := h', toks := tk + 1 + 1 } → wpAny (model prog w) A (call (.builtin "len") [.ref t]) Q E { s with heap := h', toks := tk }
theorem collect_rt {it t : Addr} {items : Array Value} {Q : List Value → Shared → Prop} (hh : A.handled = none) (hit : RT.IsRt s.heap it t ((items.size : Int) - 1)) (ht : IsTup s.heap t items) (hne : t ≠ it) (hn : items.size ≤ sizeLine) (hlen : RtLen prog w s t items)
    (hQ : ∀ (h' : Heap) (tk : Nat) (acc : Array Value), (∀ b o, b ≠ it → s.heap.get? b = some o → h'.get? b = some o) → ItemsOf (fun i v => items[items.size - 1 - i]? = some v) acc items.size → Q acc.toList { s with heap := h', toks := tk }) :
    wpAny (model prog w) A (collect (.ref it)) Q E s := by
  have W := (walks_rt (prog := prog) (w := w) (A := A.in1) hh it t hne items hn).toS
  obtain ⟨oi, hoi, _⟩ := id hit
  obtain ⟨ot, hot, _⟩ := id ht
  have nSi : s.heap.objs.size ≠ it := Nat.ne_of_gt (Heap.lt_size hoi)
  have nSt : s.heap.objs.size ≠ t := Nat.ne_of_gt (Heap.lt_size hot)
  have nf : s.heap.objs.size ∉ [it, t] := by simp; exact ⟨nSi, nSt⟩
  unfold collect
  refine wpAny_bind (wpAny_runValue (codeAny_builtin F.entry_proto_collect ?_))
  rw [Around.under_plainId F.plain_proto_collect _]
  show wpAny _ A.in1 (newList [] >>= fun l' => again (.builtin "list.__iadd__" ⟨[l', .ref it], []⟩)) _ _ s
  refine wpAny_bind (wpAny_newObj_type ?_)
  refine wpAny_pure ⟨plainId_quiet F.plain_list_iadd _, codeAny_builtin F.entry_list_iadd ?_⟩
  rw [Around.under_plainId F.plain_list_iadd _]
  generalize ho : ({ cls := .type "list", data := .seq ([] : List Value).toArray } : Obj) = ob
  have gS : (s.heap.push ob).get? s.heap.objs.size = some { cls := .type "list", data := .seq #[] } := by rw [← ho]; exact Heap.get?_push_size _ rfl
  have it1 : RT.IsRt (s.heap.push ob) it t ((items.size : Int) - 1) := hit.at fun o e => Heap.get?_push_of_some _ e
  have t1 : IsTup (s.heap.push ob) t items := by obtain ⟨o, e, q⟩ := ht; exact ⟨o, Heap.get?_push_of_some _ e, q⟩
  have hT : ({ s with heap := s.heap.push ob } : Shared).TypeIs (.ref it) "reversed" := RT.IsRt.typeIs (s := { s with heap := s.heap.push ob }) it1
  have ns : Builtin.List.listSameRef (.ref s.heap.objs.size) (.ref it) = false := by simp [Builtin.List.listSameRef, nSi]
  have key : ∀ (h : Heap) (c₁ tk : Nat), RT.IsRt h it t ((items.size : Int) - 1) → IsTup h t items → (∀ b o, b ≠ s.heap.objs.size → s.heap.get? b = some o → h.get? b = some o) → h.get? s.heap.objs.size = some { cls := .type "list", data := .seq #[] c₁ } →
      codeAny (model prog w) A (.builtin "list.extend.loop" ⟨[.ref s.heap.objs.size, .ref it, .ref s.heap.objs.size], []⟩) (fun r s' => match r with | .ok (.ret v) => wpAny (model prog w) A (match v with | .ref a => (do match (← load a).data with | .seq xs _ => return xs.toList | _ => unsupported "internal:collect") | _ => unsupported "internal:collect") Q E s' | .ok _ => False | .error e => E e s') { s with heap := h, toks := tk } := by
    intro h c₁ tk a1 a2 kp gS1
    have e0 : ((items.size : Nat) : Int) - 1 - ((0 : Nat) : Int) = (items.size : Int) - 1 := by omega
    refine codeAny_extend_loopS W hn _ nf _ items.size 0 _ _ _ rfl (Nat.zero_le _) ⟨Nat.zero_le _, by rw [e0]; exact a1, a2⟩ gS1 (ItemsOf.nil _) fun s' acc' c' hm hS' hacc => ?_
    show wpAny _ A (load s.heap.objs.size >>= _) _ _ s'
    refine wpAny_bind (wpAny_load hS' ?_)
    refine wpAny_pure ?_
    rw [Moved.eq_with hm]
    refine hQ s'.heap s'.toks acc' (fun b o hb e => hm.heap b o (fun hmem => ?_) (kp b o (fun eb => ?_) e)) hacc
    · rcases List.mem_cons.mp hmem with e' | hmem
      · exact absurd (Heap.lt_size e) (by rw [e']; exact Nat.lt_irrefl _)
      · exact hb (List.mem_singleton.mp hmem)
    · exact absurd (Heap.lt_size e) (by rw [eb]; exact Nat.lt_irrefl _)
  show wpAny _ A.in1 (Builtin.List.listExtendWith (.ref s.heap.objs.size) (.ref it) (.ref s.heap.objs.size)) _ _ _
  unfold Builtin.List.listExtendWith
  refine wpAny_bind (wpAny_typeOf hT ?_)
  rw [if_neg (by rw [ns]; decide)]
  refine wpAny_bind (RT.iter_rt (s := { s with heap := s.heap.push ob }) it1 ?_)
  refine wpAny_bind (wpAny_holding (hint_rt (s := { s with heap := s.heap.push ob }) it1 t1 hn (fun A E Q h => hlen _ _ A E Q (fun o e => Heap.get?_push_of_some _ e) h) fun b tk => ?_))
  refine wpAny_ite_split (fun _ => ?_) (fun _ => wpAny_pure ⟨plainId_quiet F.plain_extend_loop _, key _ _ _ it1 t1 (fun b o _ e => Heap.get?_push_of_some _ e) gS⟩)
  refine wpAny_bind (wpAny_rule ?_)
  refine wpAny_bind ?_
  show wpAny _ _ (updateSeq s.heap.objs.size (·.push .none) >>= fun _ => updateSeq s.heap.objs.size (·.pop)) _ _ _
  refine wpAny_bind (wpAny_updateSeq gS rfl ?_)
  have g2 := Heap.get?_update_self (Obj.mapSeq (·.push Value.none)) gS rfl
  refine wpAny_updateSeq (hz := by seq_fits) g2 rfl ?_
  have g3 := Heap.get?_update_self (Obj.mapSeq (·.pop)) g2 rfl
  have oth : ∀ b o, b ≠ s.heap.objs.size → (s.heap.push ob).get? b = some o → (((s.heap.push ob).update s.heap.objs.size (Obj.mapSeq (·.push Value.none))).update s.heap.objs.size (Obj.mapSeq (·.pop))).get? b = some o := fun b o hb e => (Heap.get?_update_other _ _ (Ne.symm hb)).trans ((Heap.get?_update_other _ _ (Ne.symm hb)).trans e)
  refine wpAny_pure ⟨plainId_quiet F.plain_extend_loop _, key _ _ _ (it1.at fun o e => oth _ _ (Ne.symm nSi) e) ?_ (fun b o hb e => oth b o hb (Heap.get?_push_of_some _ e)) g3⟩
  obtain ⟨o, e, q⟩ := t1
  exact ⟨o, oth _ _ (Ne.symm nSt) e, q⟩
theorem rt_len {t : Addr} {items : Array Value} (ht : IsTup s.heap t items) (hn : items.size ≤ sizeLine) : RtLen prog w s t items := fun h' tk A E Q e k => by
  obtain ⟨o, e1, q⟩ := ht
  rw [sizeLine_eq] at hn
  exact len_tuple (s := { s with heap := h', toks := tk }) ⟨o, e o e1, q⟩ (by omega) k
theorem new_rt {it t : Addr} {items : Array Value} {Q₁ : Value → Shared → Prop} (hh : A.handled = none) (hit : RT.IsRt s.heap it t ((items.size : Int) - 1)) (ht : IsTup s.heap t items) (hne : t ≠ it) (hn : items.size ≤ sizeLine)
    (hQ : ∀ (h' : Heap) (tk : Nat) (acc : Array Value), (∀ b o, b ≠ it → s.heap.get? b = some o → h'.get? b = some o) → ItemsOf (fun i v => items[items.size - 1 - i]? = some v) acc items.size → Q₁ (.ref h'.objs.size) { s with heap := h'.push { cls := .type "tuple", data := .seq acc }, toks := tk }) :
    codeAny (model prog w) A (.call (.builtin "tuple.__new__") ⟨[.type "tuple", .ref it], []⟩) (wants Q₁ E) s := by
  refine codeAny_of_tree (wpAny_bind (wpAny_of_eq (F.newCall_tuple_1 _) (wpAny_pure ⟨plainId_quiet F.plain_tuple_new _, codeAny_builtin F.entry_tuple_new ?_⟩)))
  rw [Around.under_plainId F.plain_tuple_new _]
  have f1 := sub_tuple_self
  have f2 := init_tuple_lookup
  have f3 := madeHere_tuple
  have f4 : s.TypeIs (.ref it) "reversed" := hit.typeIs
  have f5 : A.in1.handled = none := hh
  wp_walk using wpAny_typeOf f4, collect_rt (A := A.in1) f5 hit ht hne hn (rt_len ht hn)
  intro h' tk acc hk hacc
  show wpAny _ _ (Builtin.Tuple.tupleExact acc.toList.toArray >>= fun v => ret v) _ _ _
  unfold Builtin.Tuple.tupleExact
  refine wpAny_bind (wpAny_newObj_type ?_ (by show acc.toList.toArray.size ≤ sizeLine; simp only [Array.toArray_toList, hacc.1]; exact hn))
  have e : acc.toList.toArray = acc := Array.toArray_toList
  rw [e]
  exact wpAny_pure (hQ h' tk acc hk hacc)
theorem call_rt {it t : Addr} {items : Array Value} {Q : Value → Shared → Prop} (hh : A.handled = none) (hit : RT.IsRt s.heap it t ((items.size : Int) - 1)) (ht : IsTup s.heap t items) (hne : t ≠ it) (hn : items.size ≤ sizeLine)
    (hQ : ∀ (h' : Heap) (tk : Nat) (acc : Array Value), (∀ b o, b ≠ it → s.heap.get? b = some o → h'.get? b = some o) → ItemsOf (fun i v => items[items.size - 1 - i]? = some v) acc items.size → Q (.ref h'.objs.size) { s with heap := h'.push { cls := .type "tuple", data := .seq acc }, toks := tk }) :
    wpAny (model prog w) A (call (.type "tuple") [.ref it]) Q E s := by
  refine callType_codes (Q₁ := fun obj s₁ => s₁.TypeIs obj "tuple" ∧ Q obj s₁) F.called_tuple (F.typeCall_tuple_1 _) F.entry_object_init (new_rt (A := A.in1) hh hit ht hne hn fun h' tk acc hk hacc => ⟨⟨_, Heap.get?_push_size _ rfl, rfl⟩, hQ h' tk acc hk hacc⟩) ?_
  exact fun obj s₁ h₁ => ⟨h₁.1, F.args_object_init_2 obj _, object_init_meets F.called_tuple.init.lookup F.called_tuple.made (by decide) prog w A.in1 _ s₁ ⟨h₁.1, rfl, h₁.2⟩⟩
end
section
variable {X : Cx} {K : PySem.W.Frag} {mg : Str → Option Value} {r : List Addr} {H : Hp} {h : HP} {W : WX} {a e : Expr} {ma : ME} {t : MA} {pos p p2 pos2 : Pos}
def tupD : D → Option (List D)
  | .tup xs => some xs
  | .stp xs => some xs
  | _ => none
def mTupRev (m : ME) : ME := fun s h => (m s h).bind fun d h => match tupD d with | some xs => .ok (.stp xs.reverse) h | none => .bad
theorem tupD_ok {d : D} {v : V} {xs : List D} (e : tupD d = some xs) (rd : RelD K mg r H d v) : ∃ a vs, v = .ref a ∧ SqT K H a vs ∧ RelDs K mg r H xs vs := by
  cases rd with
  | tup sq rls => cases e; exact ⟨_, _, rfl, SqT.of sq, rls⟩
  | stp sq rls => cases e; exact ⟨_, _, rfl, sq.sq, rls⟩
  | _ => cases e
theorem rels_rev : ∀ {xs : List D} {vs : List V}, RelDs K mg r H xs vs → ∀ {ys : List D} {us : List V}, RelDs K mg r H ys us → RelDs K mg r H (xs.reverse ++ ys) (vs.reverse ++ us) := by
  intro xs
  induction xs with
  | nil => intro vs rl ys us r2; cases rl; exact r2
  | cons x xs ih =>
    intro vs rl ys us r2
    cases rl with
    | cons rx rl =>
      simp only [List.reverse_cons, List.append_assoc, List.singleton_append]
      exact ih rl (.cons rx r2)
theorem qe_tupRev (hc : X.calm = true) (hg : Gl X "tuple") (hm : X.mg "tuple" = none) (hg2 : Gl X "reversed") (hm2 : X.mg "reversed" = none) (he : QE X W e ma)
    (hs : starEach [e] X.env = (false, eval e X.env) :: starEach [] X.env := by rfl)
    (hs2 : starEach [.Call (.Name "reversed" p2) [e] [] pos2] X.env = (false, eval (.Call (.Name "reversed" p2) [e] [] pos2) X.env) :: starEach [] X.env := by rfl) :
    QE X W (.Call (.Name "tuple" p) [.Call (.Name "reversed" p2) [e] [] pos2] [] pos) (mTupRev ma) := by
  refine ⟨fun pins s σ H Q I q => ?_⟩
  have q2 := tM.bind (rr1 := rD) (m := ma) (k := fun s d h => match tupD d with | some xs => .ok (D.stp xs.reverse) h | none => .bad) q
  refine Call_ (ld_blt I hg hm boot_tuple (PyProof.Rows.callWith_type1 (args_cons (Call_ (ld_blt I hg2 hm2 PyProof.Rows.boot_reversed (PyProof.Rows.callWith_type1 (args_cons (thn (he.run pins s σ H _ I q2) fun u s1 ⟨v, H1, I1, rv, r1, s2, d, h1, rp1, rs1, rd1, p1⟩ => args_nil ?_) hs) hs rfl))) hs2) hs2 rfl))
  cases e1 : tupD d with
  | none => rw [e1] at p1; exact p1.elim
  | some ds =>
    rw [e1] at p1
    have p1 : PostV X.K X.mg r1 H1 Q (some (.stp ds.reverse, h1)) := p1
    obtain ⟨t0, vs, rfl, sq, rls⟩ := tupD_ok e1 rd1
    cases rv
    obtain ⟨its, rv, ht, hz⟩ := I1.tuple sq
    have hn : its.toArray.size ≤ sizeLine := by rw [List.size_toArray, ← rv.length]; exact hz
    have hn' := hn
    rw [sizeLine_eq] at hn'
    refine RT.call_reversed_tup ht (fun A E Q k => len_tuple ht (by omega) k) (args_nil ?_)
    generalize hob : RT.rtObj t0 ((its.toArray.size : Int) - 1) = ob
    have k0 : ∀ b o, s1.heap.get? b = some o → (s1.heap.push ob).get? b = some o := fun b o e => Heap.get?_push_of_some _ e
    have I2 : Inv X pins σ H1 { s1 with heap := s1.heap.push ob, toks := s1.toks + 1 + 1 } := I1.kept (t' := s1.toks + 1 + 1) k0
    obtain ⟨f0, f1, f2, f3, f4, f5⟩ := I1.fpOk (H' := H1) (b := s1.heap.objs.size) (Nat.le_refl _) (I1.hok.fresh (Nat.le_refl _))
    obtain ⟨ot, hot, qt⟩ := id ht
    have hne : t0 ≠ s1.heap.objs.size := Nat.ne_of_lt (Heap.lt_size hot)
    refine call_rt (s := { s1 with heap := s1.heap.push ob, toks := s1.toks + 1 + 1 }) (I1.ok.hd hc) ⟨_, Heap.get?_push_size _ (by rw [← hob]; rfl), by rw [← hob]; rfl, by rw [← hob]; rfl⟩ ⟨ot, k0 _ _ hot, qt⟩ hne hn fun h' tk acc hk hi => ?_
    have I3 : Inv X pins σ H1 { s1 with heap := h', toks := tk } := I2.turned (t' := tk) (fun b o hb e => hk b o hb e) f0 f1 f3 f4 f5
    have rr : RelDs X.K X.mg r1 H1 ds.reverse vs.reverse := by
      have := rels_rev rls .nil
      simpa using this
    exact fx_laid (s := { s1 with heap := h', toks := tk }) (tk := tk) I3 (fun b u e => Heap.get?_push_of_some _ e) rp1 rr (RT.vals_rev rv hi) (by rw [List.length_reverse]; exact hz) (Nat.le_refl _) (by show (h'.push { cls := .type "tuple", data := .seq acc }).get? h'.objs.size = some { cls := .type "tuple", data := .seq acc.toList.toArray }; rw [Array.toArray_toList]; exact Heap.get?_push_size _ rfl) p1
end
end PM
end
section
set_option Elab.async false
set_option linter.all false
set_option maxRecDepth 100000
set_option maxHeartbeats 2000000
namespace PM
open PySem PySem.Spec PyProof.Rows L2

/-! ### zip of two lists, or of two tuples -/
section
variable {X : Cx} {K : PySem.W.Frag} {mg : Str → Option Value} {r : List Addr} {H : Hp} {h : HP} {W : WX} {e e2 : Expr} {t : MA} {pos p tpos : Pos}
def lstD (h : HP) (i : Nat) : Option (List D) := match h[i]? with
  | some (.lst xs) => some xs
  | some (.rdl xs) => some xs
  | _ => none
def zipD (xs ys : List D) : List D := List.zipWith (fun x y => .tup [x, y]) xs ys
def itZ : List D → HP → R (List D × (HP → Prop)) := fun ds h => match ds with
  | [.ref i, .ref j] => match lstD h i, lstD h j with
    | some xs, some ys => .ok (zipD xs ys, fun h => lstD h i = some xs ∧ lstD h j = some ys) h
    | _, _ => .bad
  | [a, b] => match tupD a, tupD b with
    | some xs, some ys => .ok (zipD xs ys, fun _ => True) h
    | _, _ => .bad
  | _ => .bad
def iZ (t : MA) : MI := fun s h => (t s h).bind itZ
theorem lstD_ok {h : HP} {i : Nat} {xs : List D} (e : lstD h i = some xs) : h[i]? = some (.lst xs) ∨ h[i]? = some (.rdl xs) := by
  unfold lstD at e
  split at e <;> cases e
  · rename_i q; exact .inl q
  · rename_i q; exact .inr q
theorem zipD_get {xs ys : List D} {i : Nat} {d : D} (q : (zipD xs ys)[i]? = some d) : ∃ x y, d = .tup [x, y] ∧ xs[i]? = some x ∧ ys[i]? = some y := by
  unfold zipD at q
  rw [List.getElem?_zipWith] at q
  cases e1 : xs[i]? with
  | none => rw [e1] at q; cases q
  | some x =>
    cases e2 : ys[i]? with
    | none => rw [e1, e2] at q; cases q
    | some y => rw [e1, e2] at q; cases q; exact ⟨x, y, rfl, rfl, rfl⟩
theorem jrel_zip {r0 : List Addr} {H0 : Hp} {i j : Nat} {a b : Addr} {xs ys : List D} (ea : r0[i]? = some a) (eb : r0[j]? = some b) : JRel K mg r0 H0 (Itz K a b) (zipD xs ys) (fun h => lstD h i = some xs ∧ lstD h j = some ys) := by
  intro k r H h e kp rp ⟨g1, g2⟩
  obtain ⟨vs, sq, rl⟩ := list_at rp (e.get ea) (lstD_ok g1)
  obtain ⟨ws, sq2, rl2⟩ := list_at rp (e.get eb) (lstD_ok g2)
  refine ⟨fun d hd => ?_, fun hj => ?_⟩
  · obtain ⟨x, y, rfl, hx, hy⟩ := zipD_get hd
    obtain ⟨v, hv, rv⟩ := rl.get hx
    obtain ⟨w, hw, rw'⟩ := rl2.get hy
    refine ⟨⟨vs, ws, v, w, sq, sq2, hv, hw⟩, fun z H' ⟨T, v', w', e1, e2, e3, e4, e5⟩ => ?_⟩
    subst e1 e3
    have q1 := e4 vs sq; rw [hv] at q1; cases q1
    have q2 := e5 ws sq2; rw [hw] at q2; cases q2
    have kn : Keep H (upd H T (.tup [v, w])) := Keep.new e2
    exact ⟨kn, rp.fresh e2, .tup upd_same (.cons (rv.mono (Ext.refl _) kn) (.cons (rw'.mono (Ext.refl _) kn) .nil))⟩
  · refine ⟨vs, ws, sq, sq2, ?_⟩
    have l1 := rl.length
    have l2 := rl2.length
    unfold zipD at hj
    rw [List.length_zipWith] at hj
    omega
theorem jrel_zipT {r0 : List Addr} {H0 : Hp} {a b : Addr} {xs ys : List D} {vs ws : List V} (sq : SqT K H0 a vs) (sq2 : SqT K H0 b ws) (rl : RelDs K mg r0 H0 xs vs) (rl2 : RelDs K mg r0 H0 ys ws) : JRel K mg r0 H0 (RZ.ItzT K a b) (zipD xs ys) (fun _ => True) := by
  intro k r H h e kp rp _
  have s1 : SqT K H a vs := kp.sqT sq
  have s2 : SqT K H b ws := kp.sqT sq2
  refine ⟨fun d hd => ?_, fun hj => ?_⟩
  · obtain ⟨x, y, rfl, hx, hy⟩ := zipD_get hd
    obtain ⟨v, hv, rv⟩ := rl.get hx
    obtain ⟨w, hw, rw'⟩ := rl2.get hy
    refine ⟨⟨vs, ws, v, w, s1, s2, hv, hw⟩, fun z H' ⟨T, v', w', e1, e2, e3, e4, e5⟩ => ?_⟩
    subst e1 e3
    have q1 := e4 vs s1; rw [hv] at q1; cases q1
    have q2 := e5 ws s2; rw [hw] at q2; cases q2
    have kn : Keep H (upd H T (.tup [v, w])) := Keep.new e2
    exact ⟨kn, rp.fresh e2, .tup upd_same (.cons ((rv.mono e kp).mono (Ext.refl _) kn) (.cons ((rw'.mono e kp).mono (Ext.refl _) kn) .nil))⟩
  · refine ⟨vs, ws, s1, s2, ?_⟩
    have l1 := rl.length
    have l2 := rl2.length
    unfold zipD at hj
    rw [List.length_zipWith] at hj
    omega
theorem qi_zip {elts : List Expr} {kk : Nat} (hg : Gl X "zip") (hm : X.mg "zip" = none) (ha : QA X W [e, e2] t)
    (hs : starEach [e, e2] X.env = (false, eval e X.env) :: starEach [e2] X.env := by rfl) (hpl : (backTo pos (starEach [e2] X.env)).any (·.1) = false := by rfl) :
    QI X W (.Tuple elts kk tpos) (.Call (.Name "zip" p) [e, e2] [] pos) (iZ t) := (RZ.pi_zipA hg hm ha hs hpl).imp fun σ H Q q => by
  obtain ⟨r, s, h, rp, rs, pp⟩ := rIt.bind (rr := rDs) (m := t) (f := itZ) q
  refine ⟨r, s, h, rp, rs, pp.imp fun v H1 ⟨r1, s1, ds, h1, rp1, rs1, rl1, p1⟩ => ?_⟩
  have rl1 : RelDs X.K X.mg r1 H1 ds v := rl1
  unfold itZ at p1
  split at p1
  · rename_i i j
    obtain ⟨v1, v2, rfl, ra, rb⟩ := two_of rl1
    cases ra with
    | @ref _ a1 ea =>
    cases rb with
    | @ref _ b1 eb =>
    split at p1
    · rename_i xs ys hx hy
      obtain ⟨vs, sq, rl⟩ := list_at rp1 ea (lstD_ok hx)
      obtain ⟨ws, sq2, rl2⟩ := list_at rp1 eb (lstD_ok hy)
      exact ⟨a1, b1, vs, ws, rfl, .inl ⟨sq, sq2, p1 r1 H1 _ (Ext.refl _) (Keep.refl _) rp1 (jrel_zip ea eb)⟩⟩
    · exact p1.elim
  · rename_i a b _
    obtain ⟨v1, v2, rfl, ra, rb⟩ := two_of rl1
    split at p1
    · rename_i xs ys hx hy
      obtain ⟨a1, vs, rfl, sq, rl⟩ := tupD_ok hx ra
      obtain ⟨b1, ws, rfl, sq2, rl2⟩ := tupD_ok hy rb
      exact ⟨a1, b1, vs, ws, rfl, .inr ⟨sq, sq2, p1 r1 H1 _ (Ext.refl _) (Keep.refl _) rp1 (jrel_zipT sq sq2 rl rl2)⟩⟩
    · exact p1.elim
  · exact p1.elim
end
end PM
end
section
set_option Elab.async false
set_option linter.all false
set_option maxRecDepth 100000
set_option maxHeartbeats 2000000
namespace PM
open PySem PySem.Spec PyProof.Rows L2
theorem hu65 {A : Around} {k : Nat} (hr : Room k A) : A.units + 65 < cLine := by have := hr.un; omega
theorem sw_trueD {kx vx : Expr} {gs : List Comprehension} {scope : Scope} {pos py : Pos} {y : Str} {l : Nat} {env : Env} (hk : env.scope.kind = .function) (hy : env.scope.names.lookup y = some .local) (hl : (py.line == pos.line) = true)
    (ha : (scope.names.any fun (n, k) => n == y && (k == .local || k == .cell)) = false) : swapsWith (.DictComp kx vx gs scope pos) (some (.Name y py)) l env = pure true := by
  have h1 : env.kindOf y = some .local := hy
  have h2 : env.blockKind = .function := by unfold Env.blockKind; rw [hk]; rfl
  unfold swapsWith
  simp only [h2, h1, ha, Expr.pos, hl]
  rfl
end PM
end
section
set_option Elab.async false
set_option linter.all false
set_option maxRecDepth 100000
set_option maxHeartbeats 2000000
/-! slices of tuples, list + list, a list's place set, partition, len of a dict, isinstance of a tuple, == of two dicts -/
namespace PM
open PySem PySem.Spec PyProof.Rows L2
section
variable {X : Cx} {K : PySem.W.Frag} {mg : Str → Option Value} {r : List Addr} {H : Hp} {h : HP} {W : WX} {pos pos' : Pos}
def whole (n : Nat) (lo hi : Option Int) : Prop := HT.sIx n 0 lo = 0 ∧ HT.sIx n n hi = n
instance {n : Nat} {lo hi : Option Int} : Decidable (whole n lo hi) := by unfold whole; infer_instance
theorem cut_whole {xs : List D} {lo hi : Option Int} (w : whole xs.length lo hi) : cutD xs lo hi = xs := by
  unfold cutD
  rw [w.1, w.2]
  simp
def slT : D → Option Int → Option Int → HP → Option (D × HP) := fun x lo hi h => match x with
  | .tup xs => some (.tup (cutD xs lo hi), h)
  | .stp xs => if whole xs.length lo hi then some (.stp xs, h) else some (.tup (cutD xs lo hi), h)
  | _ => slL x lo hi h
theorem sl_T : SlR X (rVsl X.K X.mg slT) := by
  intro pins s σ H x v vl vu lo hi sl Q I rx hs pl pu ⟨r, d, h, rp, rl, p⟩
  unfold slT at p
  split at p
  · rename_i xs
    obtain ⟨a, vs, e1, rls, sq, e0⟩ : ∃ a vs, x = .ref a ∧ RelDs X.K X.mg r H xs vs ∧ SqT X.K H a vs ∧ H a = some (.tup vs) := by
      cases rl with
      | tup q t => exact ⟨_, _, rfl, t, SqT.of q, q⟩
    subst e1
    refine sl_tupA pins s σ H _ v vl vu lo hi sl Q I rx hs pl pu ⟨a, vs, rfl, sq, fun w => ?_, fun _ p' hp => p.tup rp (cut_rel rls lo hi) hp⟩
    rw [cut_whole (by rw [rls.length]; exact w)] at p
    exact p.here rp (.tup e0 rls)
  · rename_i xs
    obtain ⟨a, vs, e1, rls, sq, fx⟩ : ∃ a vs, x = .ref a ∧ RelDs X.K X.mg r H xs vs ∧ SqT X.K H a vs ∧ FxT X.K H a vs := by
      cases rl with
      | stp q t => exact ⟨_, _, rfl, t, q.sq, q⟩
    subst e1
    by_cases w : whole xs.length lo hi
    · rw [if_pos w] at p
      refine sl_tupA pins s σ H _ v vl vu lo hi sl Q I rx hs pl pu ⟨a, vs, rfl, sq, fun _ => p.here rp (.stp fx rls), fun nw => absurd (show whole vs.length lo hi by rw [← rls.length]; exact w) nw⟩
    · rw [if_neg w] at p
      refine sl_tupA pins s σ H _ v vl vu lo hi sl Q I rx hs pl pu ⟨a, vs, rfl, sq, fun w2 => absurd (show whole xs.length lo hi by rw [rls.length]; exact w2) w, fun _ p' hp => p.tup rp (cut_rel rls lo hi) hp⟩
  · exact sl_L pins s σ H _ v vl vu lo hi sl Q I rx hs pl pu ⟨r, d, h, rp, rl, p⟩
/-! list + list -/
def addL : D → D → HP → Option (D × HP) := fun x y h => match x, y with
  | .ref i, .ref j => match h[i]?, h[j]? with
    | some (.lst xs), some (.lst ys) => if xs.length + ys.length ≤ 1000000 then some (.ref h.length, h ++ [.lst (xs ++ ys)]) else none
    | _, _ => none
  | _, _ => addG x y h
theorem op_addL : OpR X (binaryOp .Add) (rV2 X.K X.mg addL) := by
  intro pins s σ H x y v u Q I rx ry ⟨r, a, b, h, rp, ra, rb, p⟩
  unfold addL at p
  split at p
  · rename_i i j
    cases ra with
    | @ref _ ad ea =>
    cases rb with
    | @ref _ bd eb =>
    split at p
    · rename_i xs ys hx hy
      by_cases hz : xs.length + ys.length ≤ 1000000
      · rw [if_pos hz] at p
        obtain ⟨vs, q, rls⟩ := rp.obs _ _ ad hx ea
        obtain ⟨ws, q2, rls2⟩ := rp.obs _ _ bd hy eb
        exact op_cat pins s σ H _ _ v u Q I rx ry ⟨ad, bd, vs, ws, rfl, rfl, q, q2, line_of (by rw [← rls.length, ← rls2.length]; exact hz), fun p' hp => p.lst rp (rls.append rls2) hp⟩
      · rw [if_neg hz] at p; exact p.elim
    · exact p.elim
  · exact op_addG pins s σ H x y v u Q I rx ry ⟨r, a, b, h, rp, ra, rb, p⟩
/-! x.partition(y) -/
def partG : D → List D → HP → Option (D × HP) := fun x ds h => match x, ds with
  | .str a, [.str b] => if (b.length == 0) = false ∧ a.length ≤ 1000000 then some (.tup [.str (Txt.partition a b).1, .str (Txt.partition a b).2.1, .str (Txt.partition a b).2.2], h) else none
  | _, _ => none
theorem mt_partG : MtR X "str.partition" (rVm X.K X.mg partG) := by
  intro pins s σ H x xs v us Q I rx rv ⟨r, d, ds, h, rp, rl, rls, p⟩
  unfold partG at p
  split at p
  · rename_i a b
    obtain ⟨w, rfl, rd⟩ := one_of (ds := []) rls
    cases rl
    cases rd
    by_cases hz : (b.length == 0) = false ∧ a.length ≤ 1000000
    · rw [if_pos hz] at p
      exact mt_partition pins s σ H _ _ v us Q I rx rv ⟨a, b, rfl, rfl, hz.1, line_of hz.2, fun p' hp => p.tup rp (.cons (.str _) (.cons (.str _) (.cons (.str _) .nil))) hp⟩
    · rw [if_neg hz] at p; exact p.elim
  · exact p.elim
/-! len of a dict -/
def lenQ : List D → HP → Option (D × HP) := fun ds h => match ds with
  | [.ref i] => match h[i]? with
    | some (.dic kvs) => some (.int kvs.length, h)
    | _ => lenG ds h
  | _ => lenG ds h
theorem relP_length {κ : Type} : ∀ {ds : List (κ × D)} {vs : List (κ × V)}, RelP K mg r H ds vs → ds.length = vs.length
  | _, _, .nil => rfl
  | _, _, .cons _ t => by rw [List.length_cons, List.length_cons, relP_length t]
theorem call_lenQ : CallR X (.builtin "len") (rVs X.K X.mg lenQ) := by
  intro pins s σ H xs us Q I rv ⟨r, ds, h, rp, rl, p⟩
  unfold lenQ at p
  split at p
  · rename_i i
    split at p
    · rename_i kvs hx
      obtain ⟨v, rfl, rd⟩ := one_of (ds := []) rl
      cases rd with
      | @ref _ ad ea =>
        obtain ⟨vs, q, rls⟩ := rp.obs _ _ ad hx ea
        exact call_lenD pins s σ H _ us Q I rv ⟨ad, vs, rfl, q, by rw [← relP_length rls]; exact p.here rp (.int _)⟩
    · exact call_lenG pins s σ H xs us Q I rv ⟨r, _, h, rp, rl, p⟩
  · exact call_lenG pins s σ H xs us Q I rv ⟨r, ds, h, rp, rl, p⟩
/-! isinstance of a tuple -/
def isiT : List D → HP → Option (D × HP) := fun ds h => match ds with
  | [.tup _, .ty n] => (kitB "tuple" n).map fun b => (.bl b, h)
  | _ => isiG ds h
theorem call_isiT' : CallR X (.builtin "isinstance") (rVs X.K X.mg isiT) := by
  intro pins s σ H xs us Q I rv ⟨r, ds, h, rp, rl, p⟩
  unfold isiT at p
  split at p
  · obtain ⟨v, v', rfl, rd, rd'⟩ := two_of rl
    cases rd'
    cases rd with
    | tup q _ => exact isi_at I rv (.base (.tup q)) rp p
  · exact call_isiG pins s σ H xs us Q I rv ⟨r, ds, h, rp, rl, p⟩
/-! x[y] = value, x a list -/
def putJ : D → D → D → HP → Option HP := fun x y v h => match x, y with
  | .ref j, .int k => match h[j]? with
    | some (.lst xs) => (ixN xs.length k).map fun n => h.set j (.lst (xs.set n v))
    | _ => none
  | _, _ => none
def mPutJ (mv mo mi : ME) : MS := fun s h => (mv s h).toS s fun v h => (mo s h).toS s fun x h => (mi s h).toS s fun y h => match putJ x y v h with
  | some h => .nx s h
  | none => .bad
theorem qs_putJ {value o i : Expr} {mv mo mi : ME} (hv : QE X W value mv) (ho : QE X W o mo) (hi : QE X W i mi) (hs : swapsWithSole [.Subscript o i pos'] value pos.line X.env = pure false := by rfl) (hw : swappedStores [.Subscript o i pos'] value X.env = pure none := by rfl)
    (h1 : (assignEach [.Subscript o i pos'] X.env).map (·.2) = [assign (.Subscript o i pos') X.env] := by rfl)
    (ha : ∀ v, assign (.Subscript o i pos') X.env v = (do
      let ov ← holding [v] (eval o X.env)
      let iv ← holding [v, ov] (eval i X.env)
      standAt pos'
      holding [v, ov, iv] (setItem ov iv v)
      release [v, ov, iv] []) := by intro _; rfl) : QS X W (.Assign [.Subscript o i pos'] value pos) (mPutJ mv mo mi) :=
  (ps_asg hv (pg_sub ho hi set_list ha) hs hw h1).imp fun D0 σ H q => by
    obtain ⟨r, s, h, rp, rs, p⟩ := q
    unfold mPutJ at p
    refine ⟨r, s, h, rp, rs, (PostS.ofE (rr := rD) rs p).imp fun v H1 ⟨r1, dv, h1, e1, k1, rp1, rl1, p1⟩ => ?_⟩
    have rs1 := rs.mono e1 k1
    refine ⟨r1, s, h1, rp1, rs1, (PostS.ofE (rr := rD) rs1 p1).imp fun x H2 ⟨r2, dx, h2, e2, k2, rp2, rl2, p2⟩ => ?_⟩
    have rs2 := rs1.mono e2 k2
    refine ⟨r2, s, h2, rp2, rs2, (PostS.ofE (rr := rD) rs2 p2).imp fun y H3 ⟨r3, dy, h3, e3, k3, rp3, rl3, p3⟩ => ?_⟩
    have rs3 := rs2.mono e3 k3
    have rl1 := (RelD.mono e2 k2 rl1).mono e3 k3
    have rl2 := RelD.mono e3 k3 rl2
    cases z : putJ dx dy dv h3 with
    | none => rw [z] at p3; exact p3.elim
    | some h4 =>
      rw [z] at p3
      unfold putJ at z
      cases rl2 with
      | @ref j ad ea =>
        cases rl3 with
        | int k =>
          dsimp only at z
          split at z
          · rename_i xs hk
            cases zn : ixN xs.length k with
            | none => rw [zn] at z; cases z
            | some n =>
              rw [zn] at z
              cases z
              obtain ⟨vs, q, rls⟩ := rp3.obs _ _ ad hk ea
              have st := rp3.set (u := .lst (vs.set n v)) (o' := .lst (xs.set n dv)) hk rfl rfl ea fun kp => ⟨_, upd_same, (rls.mono (Ext.refl _) kp).set n (rl1.mono (Ext.refl _) kp)⟩
              exact ⟨ad, vs, k, n, rfl, rfl, q, by rw [← rls.length]; exact zn, p3 r3 σ _ (Ext.refl _) st.2 st.1 (rs3.mono (Ext.refl _) st.2)⟩
          · cases z
        | _ => cases z
      | _ => cases z
/-! two dicts that are the same -/
def flatV' : List (Key × D) → Bool
  | [] => true
  | kv :: kvs => (match kv.2 with
    | .str _ => true
    | _ => false) && flatV' kvs
theorem flat_same : ∀ {ks : List (Key × D)} {vs ws : List (Key × V)}, flatV' ks = true → RelP K mg r H ks vs → RelP K mg r H ks ws → vs = ws ∧ ∀ p ∈ vs, flatB p.2 = true
  | _, _, _, _, .nil, .nil => ⟨rfl, fun _ h => by cases h⟩
  | (k, d) :: ks, (k1, v) :: vs, (k2, w) :: ws, hf, .cons a t, .cons b u => by
    unfold flatV' at hf
    rw [Bool.and_eq_true] at hf
    obtain ⟨e1, e2⟩ := flat_same hf.2 t u
    obtain ⟨a1, a2⟩ := a
    obtain ⟨b1, b2⟩ := b
    have a1 : k = k1 := a1
    have b1 : k = k2 := b1
    subst a1 b1 e1
    cases d with
    | str x =>
      cases a2; cases b2
      exact ⟨rfl, fun p hp => by
        rcases List.mem_cons.mp hp with rfl | hp
        · rfl
        · exact e2 p hp⟩
    | _ => cases hf.1
theorem keys_same {κ : Type} : ∀ {ks : List (κ × D)} {vs : List (κ × V)}, RelP K mg r H ks vs → vs.map (·.1) = ks.map (·.1)
  | _, _, .nil => rfl
  | _, _, .cons a t => by rw [List.map_cons, List.map_cons, keys_same t]; congr 1; exact a.1.symm
theorem val_nodup {κ : Type} [DecidableEq κ] : ∀ {vs : List (κ × V)}, (vs.map (·.1)).Nodup → ∀ p ∈ vs, valV vs p.1 = some p.2
  | [], _, p, hp => by cases hp
  | q :: vs, hn, p, hp => by
    rw [List.map_cons, List.nodup_cons] at hn
    unfold valV
    rcases List.mem_cons.mp hp with rfl | hp
    · simp [List.find?_cons]
    · have ne : q.1 ≠ p.1 := fun e => hn.1 (e ▸ List.mem_map.mpr ⟨p, hp, rfl⟩)
      have := val_nodup hn.2 p hp
      unfold valV at this
      rw [List.find?_cons, decide_eq_false ne]
      exact this
open Classical in
noncomputable def neQ : D → D → HP → Option (D × HP) := fun x y h => match x, y with
  | .ref i, .ref j => match h[i]?, h[j]? with
    | some (.dic ks), some (.dic ls) => if ks = ls ∧ (ks.map (·.1)).Nodup ∧ flatV' ks = true then some (.bl false, h) else none
    | _, _ => eqG true x y h
  | _, _ => eqG true x y h
theorem op_neQ (hu : X.A.units + 64 < cLine) : OpR X (compareOp .NotEq) (rV2 X.K X.mg neQ) := by
  intro pins s σ H x y v u Q I rx ry ⟨r, a, b, h, rp, ra, rb, p⟩
  unfold neQ at p
  split at p
  · rename_i i j
    split at p
    · rename_i ks ls hx hy
      by_cases hz : ks = ls ∧ (ks.map (·.1)).Nodup ∧ flatV' ks = true
      · rw [if_pos hz] at p
        obtain ⟨rfl, hz2, hz3⟩ := hz
        cases ra with
        | @ref _ ad ea =>
        cases rb with
        | @ref _ bd eb =>
        obtain ⟨vs, q, rls⟩ := rp.obs _ _ ad hx ea
        obtain ⟨ws, q2, rls2⟩ := rp.obs _ _ bd hy eb
        obtain ⟨e1, e2⟩ := flat_same hz3 rls rls2
        subst e1
        have nd : (vs.map (·.1)).Nodup := by rw [keys_same rls]; exact hz2
        exact op_ne_dictA (by omega) pins s σ H _ _ v u Q I rx ry ⟨ad, bd, vs, vs, rfl, rfl, q, q2, rfl, fun p' hp => ⟨val_nodup nd p' hp, e2 p' hp⟩, p.here rp (.bl _)⟩
      · rw [if_neg hz] at p; exact p.elim
    · exact op_neG hu pins s σ H x y v u Q I rx ry ⟨r, _, _, h, rp, ra, rb, p⟩
  · exact op_neG hu pins s σ H x y v u Q I rx ry ⟨r, a, b, h, rp, ra, rb, p⟩
end
end PM
end
section
set_option Elab.async false
set_option linter.all false
set_option maxRecDepth 100000
set_option maxHeartbeats 4000000
/-! tuple * 0 -/
namespace PM
open PySem PySem.Spec PyProof.Rows L2
theorem tuple_mul0 (l : Addr) (items : Array Value) (n : Nat) (dd : Option Addr) (sl : Array (Option Value)) (x : Int) (u : Tok) (c0 : (decide (x < -(2 ^ 63)) || decide (x ≥ 2 ^ 63)) = false) (c1 : (items.isEmpty || x == 1) = false) (c2 : (decide (x ≤ 0) || items.isEmpty) = true) :
    Meets (Builtin.«tuple.__mul__» ⟨[.ref l, .int x u], []⟩) (fun _ R s => s.heap.get? l = some { cls := .type "tuple", dict := dd, data := .seq items n, slots := sl } ∧
      R (.ok (.ret (Value.ref s.heap.objs.size))) { s with heap := s.heap.push { cls := Value.type "tuple", data := Data.seq #[] }, toks := s.toks }) :=
  .of_wp fun prog w A R s h => by
    obtain ⟨hp, g, d, tk, os⟩ := s
    obtain ⟨hl, h⟩ := h
    have f1 := AutoSeq1.idx_int
    wp_walk using wpAny_loadPart' hl
    repeat (first
      | (refine wpAny_ite_false (decide_eq_false (by rw [c0]; exact Bool.false_ne_true)) ?_; wp_walk using wpAny_loadPart' hl)
      | (refine wpAny_ite_false (decide_eq_false (by rw [c1]; exact Bool.false_ne_true)) ?_; wp_walk using wpAny_loadPart' hl)
      | (refine wpAny_ite_true (decide_eq_true (by rw [c2])) ?_; wp_walk using wpAny_loadPart' hl))
    exact ⟨_, rfl, h⟩
def rRep0 (K : PySem.W.Frag) : R2 := fun x y H Q => ∃ l xs, x = .ref l ∧ y = .int 0 ∧ SqT K H l xs ∧ xs ≠ [] ∧ ∀ p, H p = none → Q (.ref p) (upd H p (.tup []))
theorem op_rep0 {X : Cx} : OpR X (binaryOp .Mult) (rRep0 X.K) := by
  intro pins s σ H x y v u Q I rx ry h
  obtain ⟨l, xs, rfl, rfl, hT, hne, q⟩ := h
  cases rx
  obtain ⟨t, rfl⟩ := ry
  obtain ⟨its, r, ⟨⟨cls, dd, data, sl⟩, ho, hc, n, hd⟩, hs⟩ := I.tuple hT
  simp only at hc hd
  subst hc hd
  have hle : its.length = xs.length := r.length.symm
  have hn : its ≠ [] := fun e => hne (by
    rw [e] at hle
    exact List.eq_nil_of_length_eq_zero hle.symm)
  have hi : its.toArray.isEmpty = false := by
    cases its with
    | nil => exact absurd rfl hn
    | cons a b => rfl
  have c0 : (decide ((0 : Int) < -(2 ^ 63)) || decide ((0 : Int) ≥ 2 ^ 63)) = false := by decide
  have c1 : (its.toArray.isEmpty || (0 : Int) == 1) = false := by rw [hi]; rfl
  have c2 : (decide ((0 : Int) ≤ 0) || its.toArray.isEmpty) = true := rfl
  refine wpAny_binaryOp_repeat_ref (T := "tuple") (U := "int") (by decide) ⟨_, ho, rfl⟩ (fun s' => typeIs_int s' 0 t) noFill_tuple_mul F.fills_int_mul F.slot_int_rmul repeat_tuple F.slot_int_index.lookup
    (call_meets F.slot_int_rmul (typeIs_int s 0 t) F.entry_int_rmul (F.args_int_rmul_2 _ _) (int_rmul_tuple 0 t l its.toArray n dd sl)
      ⟨ho, rfl, ⟨_, ho, rfl⟩, call_meets F.slot_tuple_mul ⟨_, ho, rfl⟩ F.entry_tuple_mul (F.args_tuple_mul_2 _ _) (tuple_mul0 l its.toArray n dd sl 0 t c0 c1 c2) ⟨ho, ?_⟩⟩)
  refine ⟨.ref s.heap.objs.size, _, I.laid (t' := s.toks) (o := .tup []) (fun b ob q => Heap.get?_push_of_some _ q) (Nat.le_refl _) ?_, rfl, q _ (I.hok.fresh (Nat.le_refl _))⟩
  exact ⟨by rw [sizeLine_eq]; decide, [], .nil, IsTup.new _ _⟩
/-! t + u * int(b) in an except suite, b false -/
def fCatX (m1 m2 mb : MF) : MF := fun c fs h => match m1 c fs h, m2 c fs h, mb c fs h with
  | some (.tup (x :: xs)), some (.tup (_ :: _)), some (.bl false) => if (x :: xs).length ≤ 1000000 then some (.tup (x :: xs)) else none
  | _, _, _ => none
section
variable {X : Cx} {ok : Str → Bool} {i : Nat} {a : Addr} {cls : Value} {d : Option Addr} {o : Obj} {pn : List (Addr × Obj)} {e1 e2 eb : Expr} {m1 m2 mb : MF} {p p1 p2 p3 : Pos}
theorem se_catx (h1 : SE X ok i a cls d o pn e1 m1) (h2 : SE X ok i a cls d o pn e2 m2) (hb : SE X ok i a cls d o pn eb mb) (hg : Gl X "int") (hm : X.mg "int" = none) (hv : bootBuiltins "int" = some (.type "int"))
    (he : starEach [eb] X.env = (false, eval eb X.env) :: starEach [] X.env := by rfl) (hpl : (backTo p3 (starEach [] X.env)).any (·.1) = false := by rfl) :
    SE X ok i a cls d o pn (.BinOp e1 .Add (.BinOp e2 .Mult (.Call (.Name "int" p) [eb] [] p3) p2) p1) (fCatX m1 m2 mb) := by
  refine (pe_op (pos := p1) op_catT h1 (pe_op (pos := p2) op_rep0 h2 (pe_callTy (X := X.suite a ((a, o) :: pn)) (p := p) (pos := p3) call_int1 hg hm hv (pa_cons hb pa_nil (hs := he)) (by decide) (by decide) he hpl))).imp fun t H Q ⟨c, fs, r, h, dv, kn, q1, q⟩ => ?_
  unfold fCatX at q1
  split at q1
  · rename_i x xs y ys z1 z2 z3
    by_cases hl : (x :: xs).length ≤ 1000000
    rotate_left
    · rw [if_neg hl] at q1; cases q1
    rw [if_pos hl] at q1
    cases q1
    refine ⟨c, fs, r, h, _, kn, z1, fun v1 H1 k1 rp1 rl1 => ?_⟩
    refine ⟨c, fs, r, h, _, kn.keep k1 rp1, z2, fun v2 H2 k2 rp2 rl2 => ?_⟩
    refine ⟨c, fs, r, h, _, (kn.keep k1 rp1).keep k2 rp2, z3, fun v3 H3 k3 rp3 rl3 => ?_⟩
    refine .inr ⟨false, by rw [bl_of rl3], ?_⟩
    have rl2 := rl2.mono (Ext.refl r) k3
    have rl1 := (rl1.mono (Ext.refl r) k2).mono (Ext.refl r) k3
    cases rl2 with
    | @tup _ l2 vs2 q2 t2 =>
    refine ⟨l2, vs2, rfl, rfl, SqT.of q2, fun e => (by have := t2.length; rw [e] at this; cases this), fun p' hp => ?_⟩
    have kp : Keep H3 (upd H3 p' (.tup [])) := Keep.new hp
    have rl1 := rl1.mono (Ext.refl r) kp
    have rp4 : Rep X.K X.mg r h (upd H3 p' (.tup [])) := rp3.fresh hp
    cases rl1 with
    | @tup _ l1 vs1 q1 t1 =>
    refine ⟨l1, p', vs1, [], rfl, rfl, SqT.of q1, SqT.of upd_same, fun e => (by have := t1.length; rw [e] at this; cases this), ?_, fun _ => q _ _ (((k1.trans k2).trans k3).trans kp) rp4 (.tup q1 t1), fun ne => absurd rfl ne⟩
    exact line_of (by rw [← t1.length]; simpa using hl)
  · cases q1
end
end PM
end
section
set_option Elab.async false
set_option linter.all false
set_option maxRecDepth 100000
set_option maxHeartbeats 2000000
/-! dicts of the top with text keys, read; the hook with them -/
namespace PM
open PySem PySem.Spec PyProof.Rows L2 NdefX
theorem ns_miss {z : Str} {P : Params} : ∀ {l : List DictEntry} {ks : List Str}, l.map He.keyOf = He.keysIn P ks → z ∉ ks → l.find? (·.key.isStr z) = none ∧ l.any (·.refKey) = false
  | [], _, _, _ => ⟨rfl, rfl⟩
  | e :: r, [], h, _ => by cases h
  | e :: r, k :: ks, h, hz => by
    have h1 : He.keyOf e :: r.map He.keyOf = some (k, PyData.keyHash P k) :: He.keysIn P ks := h
    injection h1 with h2 h3
    obtain ⟨q1, q2⟩ := ns_miss h3 fun hm => hz (List.mem_cons_of_mem _ hm)
    unfold He.keyOf at h2
    split at h2
    · rename_i x t q
      have h5 := (Prod.mk.inj (Option.some.inj h2)).1
      subst h5
      have ne : z ≠ x := fun e => hz (e ▸ List.mem_cons_self)
      have f1 : e.key.isStr z = false := by
        rw [q]
        unfold Value.isStr
        first
          | exact decide_eq_false (fun e => ne e.symm)
          | exact decide_eq_false ne
          | exact beq_eq_false_iff_ne.mpr (fun e => ne e.symm)
          | exact beq_eq_false_iff_ne.mpr ne
      have f2 : e.refKey = false := by
        unfold DictEntry.refKey
        rw [q]
      exact ⟨by rw [List.find?_cons, f1]; exact q1, by rw [List.any_cons, f2, q2]; rfl⟩
    · cases h2
/-- x is a dict of the top: these texts, these plain values -/
structure GDict (K : PySem.W.Frag) (w : World) (mg : Str → Option Value) (x : Str) (kvs : List (Str × D)) : Prop where
  ex : ∃ p es n, mg x = some (.ref p) ∧ KDict K w p es n ∧ (∀ z d, kvs.lookup z = some d → ∃ u, PySem.W.nsIn K p z = some (some u) ∧ ConstV K mg d u) ∧ ∀ z, kvs.lookup z = none → PySem.W.nsIn K p z = some none
def dvB (K : PySem.W.Frag) (q : Str × List (Str × D)) : Bool := q.2.all fun kv => match PySem.W.nsIn K (He.ga K q.1) kv.1 with
  | some (some u) => constN 8 K kv.2 u
  | _ => false
theorem lookup_mem {α : Type} {z : Str} {d : α} : ∀ {kvs : List (Str × α)}, kvs.lookup z = some d → (z, d) ∈ kvs
  | [], h => by cases h
  | (k, v) :: kvs, h => by
    by_cases e : z = k
    · subst e; simp [List.lookup] at h; subst h; exact List.mem_cons_self
    · have hb : (z == k) = false := by simpa using e
      simp [List.lookup, hb] at h
      exact List.mem_cons_of_mem _ (lookup_mem h)
theorem lookup_none {α : Type} {z : Str} : ∀ {kvs : List (Str × α)}, kvs.lookup z = none → z ∉ kvs.map (·.1)
  | [], _ => by simp
  | (k, v) :: kvs, h => by
    by_cases e : z = k
    · subst e; simp [List.lookup] at h
    · have hb : (z == k) = false := by simpa using e
      have h' : kvs.lookup z = none := by
        rw [List.lookup, hb] at h
        exact h
      rw [List.map_cons, List.mem_cons]
      rintro (h1 | h1)
      · exact e h1
      · exact lookup_none h' h1
theorem gdict_ok {K : PySem.W.Frag} {w : World} {mg : Str → Option Value} {x : Str} {kvs : List (Str × D)} (hm : mg x = some (.ref (He.ga K x))) (hd : He.dicW K (He.ga K x) = some (He.keysIn w.params (kvs.map (·.1)))) (hv : dvB K (x, kvs) = true) : GDict K w mg x kvs := by
  obtain ⟨es, n, D⟩ := He.dicW_ok hd
  refine ⟨_, es, n, hm, D, fun z d e => ?_, fun z e => ?_⟩
  · have h1 := List.all_eq_true.mp hv _ (lookup_mem e)
    dsimp only at h1
    cases q : PySem.W.nsIn K (He.ga K x) z with
    | none => rw [q] at h1; cases h1
    | some o =>
      rw [q] at h1
      cases o with
      | none => cases h1
      | some u => exact ⟨u, rfl, constN_ok 8 _ _ h1⟩
  · have hk : es.toList.map He.keyOf = He.keysIn w.params (kvs.map (·.1)) := by
      unfold He.dicW at hd
      rw [D.at_] at hd
      have hl : (He.ga K x == sysModules) = false := D.low
      simpa [hl] using hd
    obtain ⟨q1, q2⟩ := ns_miss hk (lookup_none e)
    unfold PySem.W.nsIn
    rw [D.at_]
    dsimp only
    rw [q1]
    dsimp only
    rw [q2]
    rfl
/-- e in x; x[e] -/
def mInK (kvs : List (Str × D)) (ma : ME) : ME := fun s h => (ma s h).bind fun x h => match x with
  | .str z => .ok (.bl (kvs.lookup z).isSome) h
  | _ => .bad
def mAtK (kvs : List (Str × D)) (ma : ME) : ME := fun s h => (ma s h).bind fun x h => match x with
  | .str z => (match kvs.lookup z with
    | some d => .ok d h
    | none => .bad)
  | _ => .bad
section
variable {X : Cx} {W : WX} {e : Expr} {ma : ME} {x : Str} {p pos : Pos} {kvs : List (Str × D)}
theorem qe_inK (g : GDict X.K X.w X.mg x kvs) (hg : Gl X x) (ha : QE X W e ma) (hm : behindInMarks .In (.Name x p) = false := by first | exact nomark _ | rfl) (hd : (x == ("__debug__" : Str)) = false := by decide) : QE X W (.Compare e [.In] [.Name x p] pos) (mInK kvs ma) := by
  obtain ⟨a, es, n, hmg, DD, h1, h2⟩ := g.ex
  refine (pe_cmpR (op_in_kd DD) ha (pe_glob (v := .ref a) hg hmg rfl hd) hm).imp fun σ H Q q => ?_
  obtain ⟨r, s, h, rp, rs, pp⟩ := tM.bind (rr1 := rD) (m := ma) (k := fun _ (x : D) h => match x with | .str z => R.ok (D.bl (kvs.lookup z).isSome) h | _ => .bad) q
  refine ⟨r, s, h, rp, rs, pp.imp fun v H1 ⟨r1, s1, d, h1', rp1, rs1, rl1, p1⟩ => ?_⟩
  cases rl1 with
  | str z =>
    cases q2 : kvs.lookup z with
    | none =>
      refine ⟨z, none, rfl, rfl, h2 z q2, ?_⟩
      have p1 : Post X.K X.mg rD W r1 σ H1 Q (.ok (.bl (kvs.lookup z).isSome) h1') := p1
      rw [q2] at p1
      exact p1.here rp1 (.bl _)
    | some d =>
      obtain ⟨u, e1, _⟩ := h1 z d q2
      refine ⟨z, some u, rfl, rfl, e1, ?_⟩
      have p1 : Post X.K X.mg rD W r1 σ H1 Q (.ok (.bl (kvs.lookup z).isSome) h1') := p1
      rw [q2] at p1
      exact p1.here rp1 (.bl _)
  | _ => exact p1.elim
theorem qe_atK (g : GDict X.K X.w X.mg x kvs) (hg : Gl X x) (ha : QE X W e ma) (hs : PlainIx e := by exact fun _ _ => rfl) (hd : (x == ("__debug__" : Str)) = false := by decide) : QE X W (.Subscript (.Name x p) e pos) (mAtK kvs ma) := by
  obtain ⟨a, es, n, hmg, DD, h1, h2⟩ := g.ex
  refine (pe_ix ix_kdict (pe_glob (v := .ref a) hg hmg rfl hd) ha hs).imp fun σ H Q q => ?_
  obtain ⟨r, s, h, rp, rs, pp⟩ := tM.bind (rr1 := rD) (m := ma) (k := fun _ (x : D) h => match x with | .str z => (match kvs.lookup z with | some d => R.ok d h | none => R.bad) | _ => R.bad) q
  refine ⟨r, s, h, rp, rs, pp.imp fun v H1 ⟨r1, s1, d, h1', rp1, rs1, rl1, p1⟩ => ?_⟩
  cases rl1 with
  | str z =>
    have p1 : Post X.K X.mg rD W r1 σ H1 Q (match kvs.lookup z with | some d => .ok d h1' | none => .bad) := p1
    cases q2 : kvs.lookup z with
    | none => rw [q2] at p1; exact p1.elim
    | some d =>
      rw [q2] at p1
      obtain ⟨u, e1, v, rv, rd⟩ := h1 z d q2
      exact ⟨a, z, v, rfl, rfl, ⟨es, n, u, DD.at_, DD.lit, e1, rv⟩, p1.here rp1 (rd _ _)⟩
  | _ => exact p1.elim
end
section
variable {X : Cx} {W : WX} {e : Expr} {ma : ME} {x : Str} {p pos : Pos} {kvs : List (Str × D)}
theorem qt_inK (g : GDict X.K X.w X.mg x kvs) (hg : Gl X x) (ha : QE X W e ma) (hm : behindInMarks .In (.Name x p) = false := by first | exact nomark _ | rfl) (hd : (x == ("__debug__" : Str)) = false := by decide) : QT X W (.Compare e [.In] [.Name x p] pos) (mTest (mInK kvs ma)) := by
  obtain ⟨a, es, n, hmg, DD, h1, h2⟩ := g.ex
  refine (pt_cmpR (op_in_kd DD) ha (pe_glob (v := .ref a) hg hmg rfl hd) hm).imp fun σ H Q q => ?_
  have q' : tM X.K X.mg rB W (fun s h => (ma s h).bind fun x h => ((match x with | .str z => R.ok (D.bl (kvs.lookup z).isSome) h | _ => R.bad : R D)).bind kBl) σ H Q := by
    obtain ⟨r, s, h, rp, rs, p⟩ := q
    exact ⟨r, s, h, rp, rs, by have z : mTest (mInK kvs ma) s h = _ := bind_bind (ma s h) _ kBl; rw [z] at p; exact p⟩
  obtain ⟨r, s, h, rp, rs, pp⟩ := tM.bind (rr1 := rD) (m := ma) (k := fun _ (x : D) h => ((match x with | .str z => R.ok (D.bl (kvs.lookup z).isSome) h | _ => R.bad : R D)).bind kBl) q'
  refine ⟨r, s, h, rp, rs, pp.imp fun v H1 ⟨r1, s1, d, h1', rp1, rs1, rl1, p1⟩ => ?_⟩
  cases rl1 with
  | str z =>
    have p1 : Post X.K X.mg rB W r1 σ H1 Q (.ok (kvs.lookup z).isSome h1') := p1
    cases q2 : kvs.lookup z with
    | none =>
      rw [q2] at p1
      exact ⟨z, none, rfl, rfl, h2 z q2, false, rfl, Post.here (rr := rB) p1 rp1 rfl⟩
    | some d =>
      rw [q2] at p1
      obtain ⟨u, e1, _⟩ := h1 z d q2
      exact ⟨z, some u, rfl, rfl, e1, true, rfl, Post.here (rr := rB) p1 rp1 rfl⟩
  | _ => exact p1.elim
end
/-- a def that is not run further -/
theorem qss_bad {X : Cx} {W : WX} {ss : List Stmt} : QSs X W ss mBad := ⟨fun pins s σ H D I h => by
  obtain ⟨_, _, _, _, _, p⟩ := h
  exact p.elim⟩
/-! a, b = x, y -/
def kPar (i j : Nat) (s : SD) (ds : List D) (h : HP) : RS := match ds with
  | [x, y] => .nx ((s.set i (some x)).set j (some y)) h
  | _ => .bad
def mPar (i j : Nat) (t : MA) : MS := fun s h => (t s h).toS s (kPar i j s)
theorem qs_par {X : Cx} {W : WX} {pos : Pos} {i j : Nat} {x y : Str} {a b : Expr} {t : MA} {px py pt : Pos} {kt k2 pt2} (hc : X.calm = true) (hN : X.N.Nodup) (hi : X.N[i]? = some x) (hj : X.N[j]? = some y) (hij : i ≠ j)
    (hx : X.env.scope.names.lookup x = some .local) (hy : X.env.scope.names.lookup y = some .local) (ha : QA X W [a, b] t)
    (hw : swappedStores [.Tuple [.Name x px, .Name y py] kt pt] (.Tuple [a, b] k2 pt2) X.env = pure (some [x, y]) := by rfl)
    (hs : swapsWithSole [.Tuple [.Name x px, .Name y py] kt pt] (.Tuple [a, b] k2 pt2) pos.line X.env = pure false := by rfl) :
    QS X W (.Assign [.Tuple [.Name x px, .Name y py] kt pt] (.Tuple [a, b] k2 pt2) pos) (mPar i j t) :=
  (ps_par hc hN hi hj hij hx hy ha hw hs).imp fun D0 σ H q => by
    obtain ⟨r, s, h, rp, rs, p⟩ := tS.ofE (rr := rDs) (m := t) (k := kPar i j) q
    refine ⟨r, s, h, rp, rs, p.imp fun vs H1 ⟨r1, s1, ds, h1, rp1, rs1, rl1, p1⟩ => ?_⟩
    have rl1 : RelDs X.K X.mg r1 H1 ds vs := rl1
    unfold kPar at p1
    split at p1
    · obtain ⟨v, w, rfl, rv, rw'⟩ := two_of rl1
      exact ⟨v, w, rfl, p1.here rp1 ((rs1.set i rv).set j rw')⟩
    · exact p1.elim
/-! the head with tabs -/
def obsZ (n : Nat) (fa : List He.Fa) (ff : List He.DefD) (ts : List He.Tab) (ex : PySem.W.Frag → Bool) (p : Str) (g : Addr → Option Obj) : AlY := ((He.obsT fa ff ts (frY n g), ex (frY n g)), fiW (frY n g) p)
def hookZ (n : Nat) (fa : List He.Fa) (ff : List He.DefD) (ts : List He.Tab) (ex : PySem.W.Frag → Bool) (p : Str) (v : FiW) : PySem.W.Hook where
  α := AlY
  obs := fun s => obsZ n fa ff ts ex p s.heap.get?
  val := fun w => ((He.valT ff ts w, true), v)
  says := fun w h => ∃ K : PySem.W.Frag, K.In h ∧ He.SaysX fa ff ts [] ex w h K ∧ fiW K p = v
  of := fun w h e => ⟨frY n _, He.frT_in, ⟨congrArg (fun z : AlY => z.1.1) e, congrArg (fun z : AlY => z.1.2) e, (fun _ z => nomatch z), (fun _ z => nomatch z), (fun _ z => nomatch z)⟩, congrArg Prod.snd e⟩
  keeps := fun _ _ _ ⟨K, hK, c, e⟩ k => ⟨K, PySem.W.Frag.In.keeps hK k, ⟨c.t, c.more, c.hd, c.out, fun p hp => k _ _ (c.empty p hp)⟩, e⟩
theorem obsZ_eq {n : Nat} {fa : List He.Fa} {ff : List He.DefD} {ts : List He.Tab} {ex : PySem.W.Frag → Bool} {p : Str} {v : FiW} {g : Addr → Option Obj} {s : Shared} (h : ∀ a, g a = s.heap.get? a) : obsZ n fa ff ts ex p g = (hookZ n fa ff ts ex p v).obs s := by
  have e : g = s.heap.get? := funext h
  rw [e]
  rfl
theorem tab_ok {fa : List He.Fa} {ff : List He.DefD} {ts : List He.Tab} {w : World} {K : PySem.W.Frag} (c : He.SaysT fa ff ts w K) {t : He.Tab} (ht : t ∈ ts) : He.dicW K (t.1 K) = some (He.keysIn w.params t.2) := by
  have e : ts.map (fun t => He.dicW K (t.1 K)) = ts.map fun t => some (He.keysIn w.params t.2) := congrArg (fun z : He.AlT => z.2) c
  obtain ⟨i, hi, rfl⟩ := List.mem_iff_getElem.mp ht
  have := congrArg (fun l => l[i]?) e
  simpa [hi] using this
end PM
end
section
set_option Elab.async false
set_option linter.all false
set_option maxRecDepth 100000
set_option maxHeartbeats 1000000
/-! the plain layer run step by step: rows for simp, each for a step that is fully applied -/
namespace PM
open PySem L2
section
variable {α β : Type} {s : SD} {h : HP} {a b c : ME} {ta tb : MT} {t : MA} {p q : MS} {i n : Nat} {d x y : D} {ds : List D}
theorem bind_ok {a : α} {k : α → HP → R β} : (R.ok a h).bind k = k a h := (rfl)
theorem toS_ok {a : α} {k : α → HP → RS} : (R.ok a h).toS s k = k a h := (rfl)
theorem seq_nx {k : SD → HP → RS} : (RS.nx s h).seq k = k s h := (rfl)
theorem seq_rt {k : SD → HP → RS} : (RS.rt d h).seq k = .rt d h := (rfl)
theorem seq_bk {k : SD → HP → RS} : (RS.bk s h).seq k = .bk s h := (rfl)
theorem seq_ct {k : SD → HP → RS} : (RS.ct s h).seq k = .ct s h := (rfl)
theorem seq_exc {k : SD → HP → RS} {c fs} : (RS.exc s c fs h).seq k = .exc s c fs h := (rfl)
theorem bind_exc {k : α → HP → R β} {c fs} : (R.exc c fs h : R α).bind k = .exc c fs h := (rfl)
theorem toS_exc {k : α → HP → RS} {c fs} : (R.exc c fs h : R α).toS s k = .exc s c fs h := (rfl)
theorem mSeq_ap : mSeq p q s h = (p s h).seq q := (rfl)
theorem mNext_ap : mNext s h = .nx s h := (rfl)
def kSet (i : Nat) (s : SD) (d : D) (h : HP) : RS := .nx (s.set i (some d)) h
theorem mSet_ap : mSet i a s h = (a s h).toS s (kSet i s) := (rfl)
theorem kSet_ap : kSet i s d h = .nx (s.set i (some d)) h := (rfl)
def kAsg (g : MG) (s : SD) (d : D) (h : HP) : RS := ofS (g d s) h
theorem mAsg_ap {g : MG} : mAsg g a s h = (a s h).toS s (kAsg g s) := (rfl)
theorem kAsg_ap {g : MG} : kAsg g s d h = ofS (g d s) h := (rfl)
theorem ofS_some : ofS (some s) h = .nx s h := (rfl)
theorem gN_ap : gN i d s = some (s.set i (some d)) := (rfl)
theorem gTup_ap {t} : PM.gTup n t (.tup ds) s = if ds.length = n then t ds s else none := (rfl)
theorem gCons_ap {g : MG} {t} : PM.gCons g t (d :: ds) s = (g d s).bind (t ds) := (rfl)
theorem gNil_ap : PM.gNil [] s = some s := (rfl)
def kDrop (s : SD) (_ : D) (h : HP) : RS := .nx s h
theorem mDrop_ap : mDrop a s h = (a s h).toS s (kDrop s) := (rfl)
theorem kDrop_ap : kDrop s d h = .nx s h := (rfl)
theorem mRet_ap : mRet a s h = (a s h).toS s RS.rt := (rfl)
theorem mRetN_ap : mRetN s h = .rt .non h := (rfl)
def kIf (p q : MS) (s : SD) (x : Bool) (h : HP) : RS := bif x then p s h else q s h
theorem mIfS_ap : mIfS ta p q s h = (ta s h).toS s (kIf p q s) := (rfl)
theorem kIf_t : kIf p q s true h = p s h := (rfl)
theorem kIf_f : kIf p q s false h = q s h := (rfl)
theorem mBreak_ap : mBreak s h = .bk s h := (rfl)
theorem mCont_ap : mCont s h = .ct s h := (rfl)
theorem mBad_ap : mBad s h = .bad := (rfl)
def kAug (g : D → D → HP → Option (D × HP)) (i : Nat) (s : SD) (x : D) (y : D) (h : HP) : RS := (ofO (g x y h)).toS s (kSet i s)
theorem mAug_ap {g} : mAug i g a s h = match s[i]? with
  | some (some x) => (a s h).toS s (kAug g i s x)
  | _ => .bad := (rfl)
theorem kAug_ap {g} : kAug g i s x y h = (ofO (g x y h)).toS s (kSet i s) := (rfl)
theorem mVar_ap : mVar i s h = match s[i]? with
  | some (some d) => .ok d h
  | _ => .bad := (rfl)
theorem mC_ap : mC d s h = .ok d h := (rfl)
def k1 (g : D → HP → Option (D × HP)) (x : D) (h : HP) : R D := ofO (g x h)
theorem m1_ap {g} : m1 g a s h = (a s h).bind (k1 g) := (rfl)
theorem k1_ap {g} : k1 g x h = ofO (g x h) := (rfl)
def k2' (g : D → D → HP → Option (D × HP)) (x y : D) (h : HP) : R D := ofO (g x y h)
def k2 (g : D → D → HP → Option (D × HP)) (b : ME) (s : SD) (x : D) (h : HP) : R D := (b s h).bind (k2' g x)
theorem m2_ap {g} : m2 g a b s h = (a s h).bind (k2 g b s) := (rfl)
theorem k2_ap {g} : k2 g b s x h = (b s h).bind (k2' g x) := (rfl)
theorem k2'_ap {g} : k2' g x y h = ofO (g x y h) := (rfl)
theorem ofO_some : ofO (some (d, h)) = .ok d h := (rfl)
theorem mNil_ap : mNil s h = .ok [] h := (rfl)
def kC' (x : D) (xs : List D) (h : HP) : R (List D) := .ok (x :: xs) h
def kC (t : MA) (s : SD) (x : D) (h : HP) : R (List D) := (t s h).bind (kC' x)
theorem mCons_ap : mCons a t s h = (a s h).bind (kC t s) := (rfl)
theorem kC_ap : kC t s x h = (t s h).bind (kC' x) := (rfl)
theorem kC'_ap : kC' x ds h = .ok (x :: ds) h := (rfl)
theorem mCall_ap {g : List D → HP → R D} : mCall g t s h = (t s h).bind g := (rfl)
def kB (g : List D → HP → Option (D × HP)) (xs : List D) (h : HP) : R D := ofO (g xs h)
theorem mB_ap {g} : mB g t s h = (t s h).bind (kB g) := (rfl)
theorem kB_ap {g} : kB g ds h = ofO (g ds h) := (rfl)
def kM' (g : D → List D → HP → Option (D × HP)) (x : D) (xs : List D) (h : HP) : R D := ofO (g x xs h)
def kM (T : String) (g : D → List D → HP → Option (D × HP)) (t : MA) (s : SD) (x : D) (h : HP) : R D := bif tyB T x h then (t s h).bind (kM' g x) else .bad
theorem mMeth_ap {T g} : mMeth T g a t s h = (a s h).bind (kM T g t s) := (rfl)
theorem kM_ap {T g} : kM T g t s x h = bif tyB T x h then (t s h).bind (kM' g x) else .bad := (rfl)
theorem kM'_ap {g} : kM' g x ds h = ofO (g x ds h) := (rfl)
theorem mTest_ap : mTest a s h = (a s h).bind kBl := (rfl)
theorem kBl_ap {b : Bool} : kBl (.bl b) h = .ok b h := (rfl)
def kNot (b : Bool) (h : HP) : R Bool := .ok (!b) h
theorem mNot_ap : mNot ta s h = (ta s h).bind kNot := (rfl)
theorem kNot_ap {b} : kNot b h = .ok (!b) h := (rfl)
def kAnd (b : MT) (s : SD) (x : Bool) (h : HP) : R Bool := bif x then b s h else .ok false h
theorem mAnd_ap : mAnd ta tb s h = (ta s h).bind (kAnd tb s) := (rfl)
theorem kAnd_t : kAnd tb s true h = tb s h := (rfl)
theorem kAnd_f : kAnd tb s false h = .ok false h := (rfl)
def kOr (b : MT) (s : SD) (x : Bool) (h : HP) : R Bool := bif x then .ok true h else b s h
theorem mOr_ap : mOr ta tb s h = (ta s h).bind (kOr tb s) := (rfl)
theorem kOr_t : kOr tb s true h = .ok true h := (rfl)
theorem kOr_f : kOr tb s false h = tb s h := (rfl)
def kIfE (a b : ME) (s : SD) (x : Bool) (h : HP) : R D := bif x then a s h else b s h
theorem mIfE_ap : mIfE ta a b s h = (ta s h).bind (kIfE a b s) := (rfl)
theorem kIfE_t : kIfE a b s true h = a s h := (rfl)
theorem kIfE_f : kIfE a b s false h = b s h := (rfl)
def kAndV (b : ME) (s : SD) (x : Bool) (h : HP) : R D := bif x then b s h else .ok (.bl false) h
theorem mAndV_ap : mAndV a b s h = ((a s h).bind kBl).bind (kAndV b s) := (rfl)
theorem kAndV_t : kAndV b s true h = b s h := (rfl)
theorem kAndV_f : kAndV b s false h = .ok (.bl false) h := (rfl)
def kOrV (b : ME) (s : SD) (x : Bool) (h : HP) : R D := bif x then .ok (.bl true) h else b s h
theorem mOrV_ap : mOrV a b s h = ((a s h).bind kBl).bind (kOrV b s) := (rfl)
theorem kOrV_t : kOrV b s true h = .ok (.bl true) h := (rfl)
theorem kOrV_f : kOrV b s false h = b s h := (rfl)
def kNotV (x : Bool) (h : HP) : R D := .ok (.bl (!x)) h
theorem mNotV_ap : mNotV a s h = ((a s h).bind kBl).bind kNotV := (rfl)
theorem kNotV_ap {b : Bool} : kNotV b h = .ok (.bl (!b)) h := (rfl)
def kTup (xs : List D) (h : HP) : R D := if xs.length ≤ 1000000 then .ok (.tup xs) h else .bad
theorem mTup_ap : mTup t s h = (t s h).bind kTup := (rfl)
theorem kTup_ap : kTup ds h = if ds.length ≤ 1000000 then .ok (.tup ds) h else .bad := (rfl)
def kLst (xs : List D) (h : HP) : R D := if xs.length ≤ 1000000 then .ok (.ref h.length) (h ++ [.lst xs]) else .bad
theorem mLst_ap : mLst t s h = (t s h).bind kLst := (rfl)
theorem kLst_ap : kLst ds h = if ds.length ≤ 1000000 then .ok (.ref h.length) (h ++ [.lst ds]) else .bad := (rfl)
theorem mNoPart_ap : mNoPart s h = .ok none h := (rfl)
theorem mPart_ap : mPart a s h = (a s h).bind kInt := (rfl)
theorem kInt_ap {j : Int} : kInt (.int j) h = .ok (some j) h := (rfl)
def kSl3 (g : D → Option Int → Option Int → HP → Option (D × HP)) (x : D) (lo hi : Option Int) (h : HP) : R D := ofO (g x lo hi h)
def kSl2 (g : D → Option Int → Option Int → HP → Option (D × HP)) (u : MO) (s : SD) (x : D) (lo : Option Int) (h : HP) : R D := (u s h).bind (kSl3 g x lo)
def kSl1 (g : D → Option Int → Option Int → HP → Option (D × HP)) (l u : MO) (s : SD) (x : D) (h : HP) : R D := (l s h).bind (kSl2 g u s x)
theorem mSl_ap {g} {l u : MO} : mSl g a l u s h = (a s h).bind (kSl1 g l u s) := (rfl)
theorem kSl1_ap {g} {l u : MO} : kSl1 g l u s x h = (l s h).bind (kSl2 g u s x) := (rfl)
theorem kSl2_ap {g} {u : MO} {lo} : kSl2 g u s x lo h = (u s h).bind (kSl3 g x lo) := (rfl)
theorem kSl3_ap {g lo hi} : kSl3 g x lo hi h = ofO (g x lo hi h) := (rfl)
def kCh3 (g' : D → D → HP → Option (D × HP)) (y z : D) (h : HP) : R D := ofO (g' y z h)
def kCh2 (g' : D → D → HP → Option (D × HP)) (c : ME) (s : SD) (y : D) (k : Bool) (h : HP) : R D := bif k then (c s h).bind (kCh3 g' y) else .ok (.bl false) h
def kCh1 (g g' : D → D → HP → Option (D × HP)) (c : ME) (s : SD) (x y : D) (h : HP) : R D := ((ofO (g x y h)).bind kBl).bind (kCh2 g' c s y)
def kCh0 (g g' : D → D → HP → Option (D × HP)) (b c : ME) (s : SD) (x : D) (h : HP) : R D := (b s h).bind (kCh1 g g' c s x)
theorem mChain_ap {g g'} : mChain g g' a b c s h = (a s h).bind (kCh0 g g' b c s) := (rfl)
theorem kCh0_ap {g g'} : kCh0 g g' b c s x h = (b s h).bind (kCh1 g g' c s x) := (rfl)
theorem kCh1_ap {g g'} : kCh1 g g' c s x y h = ((ofO (g x y h)).bind kBl).bind (kCh2 g' c s y) := (rfl)
theorem kCh2_t {g'} : kCh2 g' c s y true h = (c s h).bind (kCh3 g' y) := (rfl)
theorem kCh2_f {g'} : kCh2 g' c s y false h = .ok (.bl false) h := (rfl)
theorem kCh3_ap {g'} : kCh3 g' x y h = ofO (g' x y h) := (rfl)
def kP3 (s : SD) (v x : D) (y : D) (h : HP) : RS := match putG x y v h with
  | some h => .nx s h
  | none => .bad
def kP2 (i : ME) (s : SD) (v x : D) (h : HP) : RS := (i s h).toS s (kP3 s v x)
def kP1 (o i : ME) (s : SD) (v : D) (h : HP) : RS := (o s h).toS s (kP2 i s v)
theorem mPutD_ap : mPutD a b c s h = (a s h).toS s (kP1 b c s) := (rfl)
theorem kP1_ap : kP1 b c s x h = (b s h).toS s (kP2 c s x) := (rfl)
theorem kP2_ap : kP2 c s x y h = (c s h).toS s (kP3 s x y) := (rfl)
theorem kP3_ap {v} : kP3 s v x y h = match putG x y v h with
  | some h => .nx s h
  | none => .bad := (rfl)
/-- a def's end -/
def fin : RS → R D
  | .nx _ h => .ok .non h
  | .rt d h => .ok d h
  | .exc _ c fs h => .exc c fs h
  | _ => .bad
theorem runDef_ap : runDef n p ds h = fin (p (ds.map some ++ List.replicate (n - ds.length) none) h) := by
  unfold runDef fin
  cases p (ds.map some ++ List.replicate (n - ds.length) none) h <;> rfl
theorem fin_nx : fin (.nx s h) = .ok .non h := (rfl)
theorem fin_rt : fin (.rt d h) = .ok d h := (rfl)
theorem fin_exc {c fs} : fin (.exc s c fs h) = .exc c fs h := (rfl)
theorem mFor_ok {it : MI} {g : MG} {xs : List D} {G : HP → Prop} {h' : HP} (e : it s h = .ok (xs, G) h') : mFor it g p s h = mLoop G g p xs s h' := by
  unfold mFor; rw [e]; rfl
theorem mLoop_nil {G : HP → Prop} {g : MG} (hG : G h) : mLoop G g p [] s h = .nx s h := by
  unfold mLoop; rw [if_pos hG]
theorem mLoop_nx {G : HP → Prop} {g : MG} {s1 s2 : SD} {h2 : HP} (hG : G h) (e : g d s = some s1) (e2 : p s1 h = .nx s2 h2 ∨ p s1 h = .ct s2 h2) : mLoop G g p (d :: ds) s h = mLoop G g p ds s2 h2 := by
  rw [mLoop]
  dsimp only
  rw [if_pos hG, e]
  dsimp only
  rcases e2 with e2 | e2 <;> rw [e2]
theorem mLoop_bk {G : HP → Prop} {g : MG} {s1 s2 : SD} {h2 : HP} (hG : G h) (e : g d s = some s1) (e2 : p s1 h = .bk s2 h2) : mLoop G g p (d :: ds) s h = .nx s2 h2 := by
  rw [mLoop]
  dsimp only
  rw [if_pos hG, e]
  dsimp only
  rw [e2]
theorem mLoop_rt {G : HP → Prop} {g : MG} {s1 : SD} {h2 : HP} (hG : G h) (e : g d s = some s1) (e2 : p s1 h = .rt x h2) : mLoop G g p (d :: ds) s h = .rt x h2 := by
  rw [mLoop]
  dsimp only
  rw [if_pos hG, e]
  dsimp only
  rw [e2]
theorem mLoop_exc {G : HP → Prop} {g : MG} {s1 s2 : SD} {h2 : HP} {c fs} (hG : G h) (e : g d s = some s1) (e2 : p s1 h = .exc s2 c fs h2) : mLoop G g p (d :: ds) s h = .exc s2 c fs h2 := by
  rw [mLoop]
  dsimp only
  rw [if_pos hG, e]
  dsimp only
  rw [e2]
/-- while: by fuel -/
theorem mWhile_eq : mWhile ta p = mWhileN wN ta p := by unfold mWhile; rfl
theorem wh_f {h' : HP} (e : ta s h = .ok false h') : mWhileN (n + 1) ta p s h = .nx s h' := by
  show (ta s h).toS s _ = _
  rw [e]; rfl
theorem wh_nx {h' h2 : HP} {s2 : SD} (e : ta s h = .ok true h') (e2 : p s h' = .nx s2 h2 ∨ p s h' = .ct s2 h2) : mWhileN (n + 1) ta p s h = mWhileN n ta p s2 h2 := by
  show (ta s h).toS s _ = _
  rw [e]
  show (match p s h' with | .nx s h => mWhileN n ta p s h | .ct s h => mWhileN n ta p s h | .bk s h => .nx s h | .rt d h => .rt d h | .exc s c fs h => .exc s c fs h | .bad => .bad) = _
  rcases e2 with e2 | e2 <;> rw [e2]
theorem wh_exc {h' h2 : HP} {s2 : SD} {c fs} (e : ta s h = .ok true h') (e2 : p s h' = .exc s2 c fs h2) : mWhileN (n + 1) ta p s h = .exc s2 c fs h2 := by
  show (ta s h).toS s _ = _
  rw [e]
  show (match p s h' with | .nx s h => mWhileN n ta p s h | .ct s h => mWhileN n ta p s h | .bk s h => .nx s h | .rt d h => .rt d h | .exc s c fs h => .exc s c fs h | .bad => .bad) = _
  rw [e2]
/-- the comprehension's turns -/
theorem lc_nil {G : HP → Prop} {cc : MT} {el : ME} (hG : G h) : lcLoop G i cc el n [] s h = .ok (.ref n) h := by
  unfold lcLoop; rw [if_pos hG]
theorem lc_yes {G : HP → Prop} {cc : MT} {el : ME} {h1 h2 : HP} {acc : List D} (hG : G h) (e1 : cc (s.set i (some d)) h = .ok true h1) (e2 : el (s.set i (some d)) h1 = .ok y h2) (e3 : h2[n]? = some (.lst acc)) (hl : acc.length < 1000000) :
    lcLoop G i cc el n (d :: ds) s h = lcLoop G i cc el n ds s (h2.set n (.lst (acc ++ [y]))) := by
  rw [lcLoop, if_pos hG, e1]
  dsimp only
  rw [e2]
  dsimp only
  rw [e3]
  dsimp only
  rw [if_pos hl]
theorem lc_no {G : HP → Prop} {cc : MT} {el : ME} {h1 : HP} (hG : G h) (e1 : cc (s.set i (some d)) h = .ok false h1) : lcLoop G i cc el n (d :: ds) s h = lcLoop G i cc el n ds s h1 := by
  rw [lcLoop, if_pos hG, e1]
theorem mLc_ok {it : MI} {cc : MT} {el : ME} {xs : List D} {G : HP → Prop} {h' : HP} (e : it s h = .ok (xs, G) h') : mLc it i cc el s h = lcLoop G i cc el h'.length xs (s.set i none) (h' ++ [.lst []]) := by
  unfold mLc; rw [e]; rfl
theorem mYes_ap : mYes s h = .ok true h := (rfl)
/-- a comprehension whose elements are plain values and change nothing -/
theorem lc_pure {G : HP → Prop} {el : ME} {f : D → D} {hh : HP} (hG : ∀ acc, G (hh ++ [.lst acc])) (he : ∀ d ∈ ds, ∀ acc, el (s.set i (some d)) (hh ++ [.lst acc]) = .ok (f d) (hh ++ [.lst acc])) :
    ∀ (acc : List D), acc.length + ds.length ≤ 1000000 → lcLoop G i mYes el hh.length ds s (hh ++ [.lst acc]) = .ok (.ref hh.length) (hh ++ [.lst (acc ++ ds.map f)]) := by
  induction ds with
  | nil => intro acc _; rw [lc_nil (hG acc), List.map_nil, List.append_nil]
  | cons d ds ih =>
    intro acc hl
    rw [List.length_cons] at hl
    have e3 : (hh ++ [Ob.lst acc])[hh.length]? = some (.lst acc) := by rw [List.getElem?_append_right (Nat.le_refl _)]; simp
    rw [lc_yes (hG acc) rfl (he d List.mem_cons_self acc) e3 (by omega)]
    have e4 : (hh ++ [Ob.lst acc]).set hh.length (.lst (acc ++ [f d])) = hh ++ [.lst (acc ++ [f d])] := by
      rw [List.set_append_right _ _ (Nat.le_refl _)]; simp
    rw [e4, ih (fun d hd => he d (List.mem_cons_of_mem _ hd)) (acc ++ [f d]) (by simp; omega)]
    simp
/-! operators on values -/
theorem cMul_r {i j : Int} (h : -1000000000000 ≤ j ∧ j ≤ 1000000000000) : cMul i j = true := by
  unfold cMul
  rw [Bool.or_eq_true]
  right
  rw [Bool.and_eq_true, decide_eq_true_eq, decide_eq_true_eq]
  omega
theorem cMul_l {i j : Int} (h : -1000000000000 ≤ i ∧ i ≤ 1000000000000) : cMul i j = true := by
  unfold cMul
  rw [Bool.or_eq_true]
  left
  rw [Bool.and_eq_true, decide_eq_true_eq, decide_eq_true_eq]
  omega
theorem add_ii {i j : Int} : addG (.int i) (.int j) h = some (.int (i + j), h) := (rfl)
theorem iadd_ii {i j : Int} : iaddG (.int i) (.int j) h = some (.int (i + j), h) := (rfl)
theorem add_ss {u v : Str} (c : u.length + v.length ≤ 1000000) : addG (.str u) (.str v) h = some (.str (u ++ v), h) := by unfold addG; dsimp only; rw [if_pos c]
theorem sub_ii {i j : Int} : subG (.int i) (.int j) h = some (.int (i - j), h) := (rfl)
theorem mul_ii {i j : Int} (c : cMul i j = true) : mulG (.int i) (.int j) h = some (.int (i * j), h) := by unfold mulG; dsimp only; rw [if_pos c]
theorem mul_si {u : Str} {j : Int} (c : 1 < j ∧ j ≤ 1000 ∧ u.length ≤ 1000) : mulG (.str u) (.int j) h = some (.str (Txt.mul u j), h) := by unfold mulG; dsimp only; rw [if_pos c]
theorem mod_ii {i j : Int} (c : j ≠ 0) : modG (.int i) (.int j) h = some (.int (i.fmod j), h) := by unfold modG intG; dsimp only; rw [if_pos (decide_eq_true c)]
theorem fdiv_ii {i j : Int} (c : j ≠ 0 ∧ j.natAbs < 1073741824) : fdivG (.int i) (.int j) h = some (.int (i.fdiv j), h) := by unfold fdivG intG; dsimp only; rw [if_pos (decide_eq_true c)]
theorem pow_ii {i j : Int} (c : 0 ≤ j ∧ j ≤ 1000000 ∧ i.natAbs < 2 ^ 64) : powG (.int i) (.int j) h = some (.int (i ^ j.toNat), h) := by unfold powG intG; dsimp only; rw [if_pos (decide_eq_true c)]
theorem neg_i {i : Int} : negG (.int i) h = some (.int (-i), h) := (rfl)
theorem ord_ii {g f} {i j : Int} : ordG g f (.int i) (.int j) h = some (.bl (g i j), h) := (rfl)
theorem ord_ss {g f} {i j : Str} : ordG g f (.str i) (.str j) h = some (.bl (f i j), h) := (rfl)
theorem eq_ii {i j : Int} : eqG false (.int i) (.int j) h = some (.bl (decide (i = j)), h) := (rfl)
theorem ne_ii {i j : Int} : eqG true (.int i) (.int j) h = some (.bl (!decide (i = j)), h) := (rfl)
theorem eq_ss {i j : Str} : eqG false (.str i) (.str j) h = some (.bl (decide (i = j)), h) := (rfl)
theorem ne_ss {i j : Str} : eqG true (.str i) (.str j) h = some (.bl (!decide (i = j)), h) := (rfl)
theorem is_non {d : D} : isG false d .non h = some (.bl (isNon d), h) := (rfl)
theorem isn_non {d : D} : isG true d .non h = some (.bl (!isNon d), h) := (rfl)
theorem int_i {i : Int} : toIntG [.int i] h = some (.int i, h) := (rfl)
theorem len_s {u : Str} (c : u.length ≤ 1000000) : lenG [.str u] h = some (.int u.length, h) := by unfold lenG; dsimp only; rw [if_pos c]
theorem len_t {xs : List D} : lenG [.tup xs] h = some (.int xs.length, h) := (rfl)
theorem min_ii {i j : Int} : min2G [.int i, .int j] h = some (.int (if j < i then j else i), h) := (rfl)
theorem sl_s {u : Str} {lo hi : Option Int} (l : u.length ≤ 1000000) : slG (.str u) lo hi h = some (.str (cutS u lo hi), h) := by
  unfold slG; dsimp only; rw [if_pos l]
theorem in_c {c : Nat} {b : Str} : inG false (.str ⟨#[c]⟩) (.str b) h = some (.bl (decide (c ∈ b.cps.toList)), h) := (rfl)
theorem nin_c {c : Nat} {b : Str} : inG true (.str ⟨#[c]⟩) (.str b) h = some (.bl (!decide (c ∈ b.cps.toList)), h) := (rfl)
theorem split_s {u v : Str} (c : (v.length == 0) = false ∧ u.length ≤ 1000000) : splitG (.str u) [.str v] h = some (.ref h.length, h ++ [.lst ((Txt.split u v).map D.str)]) := by
  unfold splitG; dsimp only; rw [if_pos c]
theorem str1_ss {g : Str → Str → D} {u v : Str} : strG1 g (.str u) [.str v] h = some (g u v, h) := (rfl)
theorem find4_s {u v : Str} {i j : Int} : find4G (.str u) [.str v, .int i, .int j] h = some (.int (Txt.findIn u v i j), h) := (rfl)
theorem ty_str {u : Str} : tyB "str" (.str u) h = true := (rfl)
theorem ord_c {c : Nat} : toOrdG [.str ⟨#[c]⟩] h = some (.int c, h) := (rfl)
theorem iR1_ap : iR1 t s h = (t s h).bind itR1 := (rfl)
theorem itR1_i {j : Int} (c : -(2 ^ 62) ≤ j ∧ j < 2 ^ 62) : itR1 [.int j] h = .ok ((List.range j.toNat).map fun (i : Nat) => .int (0 + i), fun _ => True) h := by unfold itR1; dsimp only; rw [if_pos c]
theorem iS_ap : iS a s h = (a s h).bind itS := (rfl)
theorem itS_s {u : Str} : itS (.str u) h = .ok (u.cps.toList.map fun c => .str ⟨#[c]⟩, fun _ => True) h := (rfl)
theorem iT_ap : iT a s h = (a s h).bind itT := (rfl)
theorem itT_t {xs : List D} : itT (.tup xs) h = .ok (xs, fun _ => True) h := (rfl)
theorem iE_ap {k : Int} : iE k t s h = (t s h).bind (itE k) := (rfl)
def oD (x : Option D) (h : HP) : Option (D × HP) := x.map fun d => (d, h)
theorem oD_some : oD (some d) h = some (d, h) := (rfl)
def oLen (x : Option Ob) (h : HP) : Option (D × HP) := match x with
  | some (.lst xs) => some (.int xs.length, h)
  | some (.rdl xs) => some (.int xs.length, h)
  | _ => none
theorem len_r {i : Nat} : lenG [.ref i] h = oLen h[i]? h := by unfold lenG oLen; dsimp only; first | done | (rcases h[i]? with _ | o; rfl; cases o <;> rfl)
theorem oLen_l {xs : List D} : oLen (some (.lst xs)) h = some (.int xs.length, h) := (rfl)
theorem oLen_r {xs : List D} : oLen (some (.rdl xs)) h = some (.int xs.length, h) := (rfl)
def oKey (x : Option Key) (kvs : List (Key × D)) (h : HP) : Option (D × HP) := x.bind fun k => (getK kvs k).map fun d => (d, h)
theorem oKey_s {k : Key} {kvs : List (Key × D)} : oKey (some k) kvs h = oD (getK kvs k) h := (rfl)
def oItem (x : Option Ob) (y : D) (h : HP) : Option (D × HP) := match x with
  | some (.dic kvs) => oKey (keyD y) kvs h
  | some (.lst xs) => (match y with | .int j => oD (atI xs j) h | _ => none)
  | some (.rdl xs) => (match y with | .int j => oD (atI xs j) h | _ => none)
  | _ => none
theorem it_ref {i : Nat} {y : D} : itemG (.ref i) y h = oItem h[i]? y h := by
  unfold itemG oItem
  dsimp only
  cases e : h[i]? with
  | none =>
    unfold ixG
    cases y with
    | int j => dsimp only; rw [e]
    | _ => rfl
  | some o =>
    cases o with
    | dic kvs => rfl
    | lst xs =>
      unfold ixG
      cases y with
      | int j => dsimp only; rw [e]; rfl
      | _ => rfl
    | rdl xs =>
      unfold ixG
      cases y with
      | int j => dsimp only; rw [e]; rfl
      | _ => rfl
    | _ =>
      unfold ixG
      cases y with
      | int j => dsimp only; rw [e]
      | _ => rfl
theorem oItem_d {kvs : List (Key × D)} {y : D} : oItem (some (.dic kvs)) y h = oKey (keyD y) kvs h := (rfl)
theorem oItem_l {xs : List D} {j : Int} : oItem (some (.lst xs)) (.int j) h = oD (atI xs j) h := (rfl)
theorem oItem_r {xs : List D} {j : Int} : oItem (some (.rdl xs)) (.int j) h = oD (atI xs j) h := (rfl)
theorem it_tup {xs : List D} {j : Int} : itemG (.tup xs) (.int j) h = oD (atI xs j) h := (rfl)
def oC (x : Option Nat) (h : HP) : Option (D × HP) := x.map fun c => (.str ⟨#[c]⟩, h)
theorem oC_some {c : Nat} : oC (some c) h = some (.str ⟨#[c]⟩, h) := (rfl)
theorem it_str {u : Str} {j : Int} (l : u.length ≤ 1000000) : itemG (.str u) (.int j) h = oC (atI u.cps.toList j) h := by
  unfold itemG ixG; dsimp only; rw [if_pos l]; rfl
theorem keyD_s {u : Str} : keyD (.str u) = some (.inr u) := (rfl)
theorem keyD_i {j : Int} : keyD (.int j) = some (.inl j) := (rfl)
def oApp (x : Option Ob) (i : Nat) (d : D) (h : HP) : Option (D × HP) := match x with
  | some (.lst xs) => if xs.length < 1000000 then some (.non, h.set i (.lst (xs ++ [d]))) else none
  | _ => none
theorem app_r {i : Nat} {d : D} : appendG (.ref i) [d] h = oApp h[i]? i d h := by unfold appendG oApp; dsimp only; first | done | (rcases h[i]? with _ | o; rfl; cases o <;> rfl)
theorem oApp_l {xs : List D} {i : Nat} (l : xs.length < 1000000) : oApp (some (.lst xs)) i d h = some (.non, h.set i (.lst (xs ++ [d]))) := by unfold oApp; dsimp only; rw [if_pos l]
def oExt (x y : Option Ob) (i : Nat) (h : HP) : Option (D × HP) := match x, y with
  | some (.lst xs), some (.lst ys) => if xs.length + ys.length ≤ 1000000 then some (.non, h.set i (.lst (xs ++ ys))) else none
  | _, _ => none
theorem ext_r {i j : Nat} : extendG (.ref i) [.ref j] h = oExt h[i]? h[j]? i h := by unfold extendG oExt; dsimp only; first | done | (rcases h[i]? with _ | o; rfl; cases o <;> first | rfl | (rcases h[j]? with _ | o; rfl; cases o <;> rfl))
theorem oExt_l {xs ys : List D} {i : Nat} (l : xs.length + ys.length ≤ 1000000) : oExt (some (.lst xs)) (some (.lst ys)) i h = some (.non, h.set i (.lst (xs ++ ys))) := by unfold oExt; dsimp only; rw [if_pos l]
def oTy (T : String) (x : Option Ob) : Bool := match x with
  | some (.lst _) => T == "list"
  | some (.rdl _) => T == "list"
  | some (.dic _) => T == "dict"
  | some (.dit _) => T == "dict"
  | _ => false
theorem ty_ref {T : String} {i : Nat} : tyB T (.ref i) h = oTy T h[i]? := by unfold tyB oTy; dsimp only; first | done | (rcases h[i]? with _ | o; rfl; cases o <;> rfl)
theorem oTy_l {xs : List D} : oTy "list" (some (.lst xs)) = true := (rfl)
def oIsi (n : String) (x : Option Ob) (h : HP) : Option (D × HP) := match x with
  | some (.lst _) => (kitB "list" n).map fun b => (.bl b, h)
  | some (.dic _) => (kitB "dict" n).map fun b => (.bl b, h)
  | _ => none
theorem isi_ref {i : Nat} {n : String} : isiG [.ref i, .ty n] h = oIsi n h[i]? h := by unfold isiG oIsi; dsimp only; first | done | (rcases h[i]? with _ | o; rfl; cases o <;> rfl)
theorem oIsi_l {xs : List D} : oIsi "list" (some (.lst xs)) h = some (.bl true, h) := (rfl)
def oPutK (x : Option Key) (kvs : List (Key × D)) (i : Nat) (v : D) (h : HP) : Option HP := x.bind fun k => if kvs.length < 1000000 then some (h.set i (.dic (setK kvs k v))) else none
def oPut (x : Option Ob) (i : Nat) (y v : D) (h : HP) : Option HP := match x with
  | some (.dic kvs) => oPutK (keyD y) kvs i v h
  | _ => none
theorem put_ref {i : Nat} {y v : D} : putG (.ref i) y v h = oPut h[i]? i y v h := by unfold putG oPut; dsimp only; first | done | (rcases h[i]? with _ | o; rfl; cases o <;> rfl)
theorem oPut_d {kvs : List (Key × D)} {i : Nat} {y v : D} : oPut (some (.dic kvs)) i y v h = oPutK (keyD y) kvs i v h := (rfl)
theorem oPutK_s {k : Key} {kvs : List (Key × D)} {i : Nat} {v : D} (l : kvs.length < 1000000) : oPutK (some k) kvs i v h = some (h.set i (.dic (setK kvs k v))) := by
  show (if kvs.length < 1000000 then _ else _) = _; rw [if_pos l]
def oBls (x : Option (List Bool)) (h : HP) : Option (D × HP) := x.map fun bs => (.bl (bs.all id), h)
theorem oBls_s {bs : List Bool} : oBls (some bs) h = some (.bl (bs.all id), h) := (rfl)
def oAll (x : Option Ob) (h : HP) : Option (D × HP) := match x with
  | some (.lst xs) => oBls (boolsD xs) h
  | _ => none
theorem all_r {i : Nat} : allG [.ref i] h = oAll h[i]? h := by unfold allG oAll; dsimp only; first | done | (rcases h[i]? with _ | o; rfl; cases o <;> rfl)
theorem oAll_l {xs : List D} : oAll (some (.lst xs)) h = oBls (boolsD xs) h := (rfl)
def oTup (x : Option Ob) (h : HP) : Option (D × HP) := match x with
  | some (.lst xs) => some (.tup xs, h)
  | some (.rdl xs) => some (.tup xs, h)
  | _ => none
theorem tup_r {i : Nat} : toTupG [.ref i] h = oTup h[i]? h := by unfold toTupG oTup; dsimp only; first | done | (rcases h[i]? with _ | o; rfl; cases o <;> rfl)
theorem oTup_l {xs : List D} : oTup (some (.lst xs)) h = some (.tup xs, h) := (rfl)
def oEnum (k : Int) (i : Nat) (x : Option Ob) (h : HP) : R (List D × (HP → Prop)) := match x with
  | some (.lst xs) => .ok (enumDs k xs, fun h => h[i]? = some (.lst xs)) h
  | some (.rdl xs) => .ok (enumDs k xs, fun h => h[i]? = some (.rdl xs)) h
  | _ => .bad
theorem itE_r {k : Int} {i : Nat} : itE k [.ref i] h = oEnum k i h[i]? h := by unfold itE oEnum; dsimp only; first | done | (rcases h[i]? with _ | o; rfl; cases o <;> rfl)
theorem oEnum_l {k : Int} {i : Nat} {xs : List D} : oEnum k i (some (.lst xs)) h = .ok (enumDs k xs, fun h => h[i]? = some (.lst xs)) h := (rfl)
theorem getK_h {k : Key} {kvs : List (Key × D)} {v : D} : getK ((k, v) :: kvs) k = some v := by simp [getK, List.find?_cons]
theorem getK_t {k k' : Key} {kvs : List (Key × D)} {v : D} (n : decide (k' = k) = false) : getK ((k', v) :: kvs) k = getK kvs k := by simp [getK, List.find?_cons, n]
end
end PM
end
section
set_option Elab.async false
set_option linter.all false
set_option maxRecDepth 100000
set_option maxHeartbeats 1000000
namespace PM
open PySem L2
section
variable {s : SD} {h : HP} {a b c : ME} {t : MA} {i n : Nat} {d x y : D} {ds : List D}
def oIH (x : Option Ob) (y : D) (h : HP) : Option (D × HP) := match x with
  | some (.dic kvs) => oKey (keyD y) kvs h
  | some (.rdd kvs) => oKey (keyD y) kvs h
  | some (.lst xs) => (match y with | .int j => oD (atI xs j) h | _ => none)
  | some (.rdl xs) => (match y with | .int j => oD (atI xs j) h | _ => none)
  | some (.dit kvs) => ((keyT y).bind (getK kvs)).map fun d => (d, h)
  | some (.rdt kvs) => ((keyT y).bind (getK kvs)).map fun d => (d, h)
  | _ => none
theorem itH_r {y : D} : itemH (.ref i) y h = oIH h[i]? y h := by
  have e0 : itemH (.ref i) y h = match lookD h[i]? y with
    | some (some d) => some (d, h)
    | some none => none
    | none => itemG (.ref i) y h := rfl
  rw [e0, it_ref]
  generalize h[i]? = o
  have kk : ∀ kvs : List (Key × D), oKey (keyD y) kvs h = (match ((keyD y).map (getK kvs) : Option (Option D)) with
    | some (some d) => some (d, h)
    | some none => none
    | none => none) := fun kvs => by
    rcases Option.eq_none_or_eq_some (keyD y) with e1 | ⟨k, e1⟩
    · rw [e1]; rfl
    · rw [e1]
      show (getK kvs k).map _ = match some (getK kvs k) with | some (some d) => some (d, h) | some none => none | none => none
      rcases Option.eq_none_or_eq_some (getK kvs k) with e2 | ⟨k, e2⟩ <;> rw [e2] <;> rfl
  have kt : ∀ kvs : List (List Key × D), (((keyT y).bind (getK kvs)).map fun d => (d, h)) = (match ((keyT y).map (getK kvs) : Option (Option D)) with
    | some (some d) => some (d, h)
    | some none => none
    | none => none) := fun kvs => by
    rcases Option.eq_none_or_eq_some (keyT y) with e1 | ⟨k, e1⟩
    · rw [e1]; rfl
    · rw [e1]
      show (getK kvs k).map _ = match some (getK kvs k) with | some (some d) => some (d, h) | some none => none | none => none
      rcases Option.eq_none_or_eq_some (getK kvs k) with e2 | ⟨k, e2⟩ <;> rw [e2] <;> rfl
  rcases o with _ | o
  · rfl
  cases o with
  | dic kvs =>
    show _ = oKey (keyD y) kvs h
    have e3 : oItem (some (.dic kvs)) y h = oKey (keyD y) kvs h := rfl
    rw [e3, kk kvs]
    show (match (keyD y).map (getK kvs) with | some (some d) => some (d, h) | some none => none | none => _) = _
    rcases (keyD y).map (getK kvs) with _ | _ | _ <;> rfl
  | rdd kvs =>
    show _ = oKey (keyD y) kvs h
    rw [kk kvs]
    show (match (keyD y).map (getK kvs) with | some (some d) => some (d, h) | some none => none | none => none) = _
    rcases (keyD y).map (getK kvs) with _ | _ | _ <;> rfl
  | dit kvs =>
    show _ = ((keyT y).bind (getK kvs)).map fun d => (d, h)
    rw [kt kvs]
    show (match (keyT y).map (getK kvs) with | some (some d) => some (d, h) | some none => none | none => none) = _
    rcases (keyT y).map (getK kvs) with _ | _ | _ <;> rfl
  | rdt kvs =>
    show _ = ((keyT y).bind (getK kvs)).map fun d => (d, h)
    rw [kt kvs]
    show (match (keyT y).map (getK kvs) with | some (some d) => some (d, h) | some none => none | none => none) = _
    rcases (keyT y).map (getK kvs) with _ | _ | _ <;> rfl
  | lst xs => cases y <;> rfl
  | rdl xs => cases y <;> rfl
  | _ => rfl
theorem itH_t {xs : List D} {j : Int} : itemH (.tup xs) (.int j) h = oD (atI xs j) h := (rfl)
theorem itH_s {xs : List D} {j : Int} : itemH (.stp xs) (.int j) h = oD (atI xs j) h := (rfl)
theorem oIH_d {kvs : List (Key × D)} {y : D} : oIH (some (.dic kvs)) y h = oKey (keyD y) kvs h := (rfl)
theorem oIH_l {xs : List D} {j : Int} : oIH (some (.lst xs)) (.int j) h = oD (atI xs j) h := (rfl)
theorem oIH_r {xs : List D} {j : Int} : oIH (some (.rdl xs)) (.int j) h = oD (atI xs j) h := (rfl)
/-! more operators -/
def oTupF (x : Option Ob) (h : HP) : Option (D × HP) := match x with
  | some (.lst xs) => some (.stp xs, h)
  | some (.rdl xs) => some (.stp xs, h)
  | _ => none
theorem tupF_r : toTupF [.ref i] h = oTupF h[i]? h := by unfold toTupF oTupF; dsimp only; first | done | (rcases h[i]? with _ | o; rfl; cases o <;> rfl)
theorem oTupF_l {xs : List D} : oTupF (some (.lst xs)) h = some (.stp xs, h) := (rfl)
def kTupF (xs : List D) (h : HP) : R D := if xs.length ≤ 1000000 then .ok (.stp xs) h else .bad
theorem mTupF_ap : mTupF t s h = (t s h).bind kTupF := (rfl)
theorem kTupF_ap : kTupF ds h = if ds.length ≤ 1000000 then .ok (.stp ds) h else .bad := (rfl)
def oSeq (x : Option Ob) : Option (List D) := match x with
  | some (.lst xs) => some xs
  | some (.rdl xs) => some xs
  | _ => none
theorem seq_t {xs : List D} : seqD (.tup xs) h = some xs := (rfl)
theorem seq_s {xs : List D} : seqD (.stp xs) h = some xs := (rfl)
theorem seq_r : seqD (.ref i) h = oSeq h[i]? := by unfold seqD oSeq; dsimp only; first | done | (rcases h[i]? with _ | o; rfl; cases o <;> rfl)
theorem oSeq_l {xs : List D} : oSeq (some (.lst xs)) = some xs := (rfl)
def kSt2 (xs ys : List D) (h : HP) : R (List D) := .ok (xs ++ ys) h
def kSt1 (t : MA) (s : SD) (h : HP) (x : Option (List D)) : R (List D) := match x with
  | some xs => (t s h).bind (kSt2 xs)
  | none => .bad
def kSt (t : MA) (s : SD) (x : D) (h : HP) : R (List D) := kSt1 t s h (seqD x h)
theorem mStar_ap : mStar a t s h = (a s h).bind (kSt t s) := by
  unfold mStar
  rfl
theorem kSt_ap : kSt t s x h = kSt1 t s h (seqD x h) := (rfl)
theorem kSt1_s {xs : List D} : kSt1 t s h (some xs) = (t s h).bind (kSt2 xs) := (rfl)
theorem kSt2_ap {xs ys : List D} : kSt2 xs ys h = .ok (xs ++ ys) h := (rfl)
def oLst (x : Option (List D)) (h : HP) : Option (D × HP) := x.map fun xs => (.ref h.length, h ++ [.lst xs])
theorem lst_d : toLst [d] h = oLst (seqD d h) h := (rfl)
theorem oLst_s {xs : List D} : oLst (some xs) h = some (.ref h.length, h ++ [.lst xs]) := (rfl)
def kRev1 (h : HP) (x : Option (List D)) : R D := match x with
  | some xs => .ok (.stp xs.reverse) h
  | none => .bad
def kRev (d : D) (h : HP) : R D := kRev1 h (tupD d)
theorem mTupRev_ap : mTupRev a s h = (a s h).bind kRev := by
  unfold mTupRev
  rfl
theorem kRev_t {xs : List D} : kRev (.tup xs) h = .ok (.stp xs.reverse) h := (rfl)
theorem kRev_s {xs : List D} : kRev (.stp xs) h = .ok (.stp xs.reverse) h := (rfl)
theorem len_st {xs : List D} : lenG [.stp xs] h = some (.int xs.length, h) := (rfl)
theorem min_l {i j : Int} : minL [.int i, .int j] h = some (.int (if j < i then j else i), h) := (rfl)
theorem isi_i {j : Int} : isiG [.int j, .ty "int"] h = some (.bl true, h) := (rfl)
theorem isi_s {u : Str} : isiG [.str u, .ty "int"] h = some (.bl false, h) := (rfl)
theorem oTy_t {kvs : List (List Key × D)} : oTy "dict" (some (.dit kvs)) = true := (rfl)
theorem oTy_d {kvs : List (Key × D)} : oTy "dict" (some (.dic kvs)) = true := (rfl)
def ixK (d : D) (z : Str) (h : HP) : Option Nat := match seqD d h with
  | some xs => match strsD xs with
    | some ys => idxOf z ys
    | none => none
  | none => none
def kIx1 (x : Option Nat) (h : HP) : R D := match x with
  | some j => .ok (.int (j : Nat)) h
  | none => .bad
theorem strs_map : ∀ cs : List Str, strsD (cs.map D.str) = some cs
  | [] => rfl
  | c :: cs => by rw [List.map_cons]; unfold strsD; rw [strs_map cs]; rfl
def kIx (t : MA) (s : SD) (x : D) (h : HP) : R D := if catF.isTup x = true then (bif tyB2 "tuple" x h then (t s h).bind fun xs h => ofO (indexG true x xs h) else .bad) else (bif tyB2 "list" x h then (t s h).bind fun xs h => ofO (indexG false x xs h) else .bad)
theorem mIdx_ap : mIdx a t s h = (a s h).bind (kIx t s) := (rfl)
def kIxs (cs : List Str) (xs : List D) (h : HP) : R D := match xs with
  | [.str z] => kIx1 (idxOf z cs) h
  | _ => .bad
theorem kIx_s {cs : List Str} : kIx t s (.stp (cs.map D.str)) h = (t s h).bind (kIxs cs) := by
  show (t s h).bind _ = _
  congr 1
  funext xs h
  have q := strs_map cs
  have no : ∀ xs : List D, (∀ z, xs ≠ [.str z]) → ofO (indexG true (.stp (cs.map D.str)) xs h) = kIxs cs xs h := fun xs n => by
    rcases xs with _ | ⟨x, _ | ⟨x2, xs⟩⟩
    · rfl
    · cases x <;> first | rfl | exact absurd rfl (n _)
    · cases x <;> rfl
  rcases xs with _ | ⟨x, _ | ⟨x2, xs⟩⟩
  · exact no _ fun z e => by cases e
  · cases x with
    | str z =>
      show ofO (indexG true (.stp (cs.map D.str)) [.str z] h) = kIx1 (idxOf z cs) h
      unfold indexG
      simp only [seqD, q, catF.isTup, if_true]
      rcases idxOf z cs with _ | j <;> rfl
    | _ => exact no _ fun z e => by cases e
  · exact no _ fun z e => by cases e
theorem kIxs_ap {cs : List Str} {z : Str} : kIxs cs [.str z] h = kIx1 (idxOf z cs) h := (rfl)
theorem kIx1_s {j : Nat} : kIx1 (some j) h = .ok (.int j) h := (rfl)
theorem iA_ap : iA a s h = (a s h).bind itA := (rfl)
theorem itA_t {xs : List D} : itA (.tup xs) h = .ok (xs, fun _ => True) h := (rfl)
theorem itA_s {xs : List D} : itA (.stp xs) h = .ok (xs, fun _ => True) h := (rfl)
theorem mLcG_ok {it : MI} {tg : Tg} {cc : MT} {el : ME} {xs : List D} {G : HP → Prop} {h' : HP} (e : it s h = .ok (xs, G) h') : mLcG it tg cc el s h = cLoop G tg cc el (putL h'.length) h'.length xs (wipeD s tg.slots) (h' ++ [.lst []]) := by
  unfold mLcG; rw [e]; rfl
theorem cat_d {x y : D} {xs ys : List D} (e1 : catF.isTup x = true) (e2 : catF.isTup y = true) (e3 : seqD x h = some xs) (e4 : seqD y h = some ys) (n1 : ys ≠ []) (n2 : y = .stp ys ∨ xs ≠ []) (hl : xs.length + ys.length ≤ 1000000) : catF x y h = some (.stp (xs ++ ys), h) := by
  unfold catF
  rw [e3, e4]
  dsimp only
  rw [if_pos ⟨e1, e2, hl⟩]
  cases xs with
  | nil =>
    rcases n2 with rfl | n2
    · rfl
    · exact absurd rfl n2
  | cons x0 xs =>
    cases ys with
    | nil => exact absurd rfl n1
    | cons y0 ys => rfl
end
end PM
end
section
set_option Elab.async false
set_option linter.all false
set_option maxRecDepth 100000
set_option maxHeartbeats 1000000
namespace PM
open PySem L2
section
variable {s : SD} {h : HP} {a b c : ME} {t : MA} {i n : Nat} {d x y : D} {ds xs ys : List D} {lo hi : Option Int} {kvs : List (Str × D)}
theorem slT_t : slT (.tup xs) lo hi h = some (.tup (cutD xs lo hi), h) := (rfl)
def oCat (x y : Option Ob) (h : HP) : Option (D × HP) := match x, y with
  | some (.lst xs), some (.lst ys) => if xs.length + ys.length ≤ 1000000 then some (.ref h.length, h ++ [.lst (xs ++ ys)]) else none
  | _, _ => none
theorem addL_r {j : Nat} : addL (.ref i) (.ref j) h = oCat h[i]? h[j]? h := (rfl)
theorem oCat_l (c : xs.length + ys.length ≤ 1000000) : oCat (some (.lst xs)) (some (.lst ys)) h = some (.ref h.length, h ++ [.lst (xs ++ ys)]) := by unfold oCat; dsimp only; rw [if_pos c]
def oLenQ (x : Option Ob) (i : Nat) (h : HP) : Option (D × HP) := match x with
  | some (.dic kvs) => some (.int kvs.length, h)
  | _ => lenG [.ref i] h
theorem lenQ_r : lenQ [.ref i] h = oLenQ h[i]? i h := by unfold lenQ oLenQ; dsimp only; first | done | (rcases h[i]? with _ | o; rfl; cases o <;> rfl)
theorem oLenQ_d {kvs : List (Key × D)} : oLenQ (some (.dic kvs)) i h = some (.int kvs.length, h) := (rfl)
theorem isiT_t : isiT [.tup xs, .ty "tuple"] h = some (.bl true, h) := (rfl)
theorem isiT_i {j : Int} : isiT [.int j, .ty "tuple"] h = some (.bl false, h) := (rfl)
theorem isiT_s {u : Str} : isiT [.str u, .ty "tuple"] h = some (.bl false, h) := (rfl)
theorem isiT_n : isiT [.non, .ty "tuple"] h = some (.bl false, h) := (rfl)
def kInK (kvs : List (Str × D)) (x : D) (h : HP) : R D := match x with
  | .str z => .ok (.bl (kvs.lookup z).isSome) h
  | _ => .bad
theorem mInK_ap : mInK kvs a s h = (a s h).bind (kInK kvs) := (rfl)
theorem kInK_s {z : Str} : kInK kvs (.str z) h = .ok (.bl (kvs.lookup z).isSome) h := (rfl)
def kAtK1 (o : Option D) (h : HP) : R D := match o with
  | some d => .ok d h
  | none => .bad
def kAtK (kvs : List (Str × D)) (x : D) (h : HP) : R D := match x with
  | .str z => kAtK1 (kvs.lookup z) h
  | _ => .bad
theorem mAtK_ap : mAtK kvs a s h = (a s h).bind (kAtK kvs) := (rfl)
theorem kAtK_s {z : Str} : kAtK kvs (.str z) h = kAtK1 (kvs.lookup z) h := (rfl)
theorem kAtK1_s : kAtK1 (some d) h = .ok d h := (rfl)
theorem mPar_ap {j : Nat} : mPar i j t s h = (t s h).toS s (kPar i j s) := (rfl)
theorem kPar_ap {j : Nat} : kPar i j s [x, y] h = .nx ((s.set i (some x)).set j (some y)) h := (rfl)
def kJ3 (s : SD) (v x : D) (y : D) (h : HP) : RS := match putJ x y v h with
  | some h => .nx s h
  | none => .bad
def kJ2 (i : ME) (s : SD) (v x : D) (h : HP) : RS := (i s h).toS s (kJ3 s v x)
def kJ1 (o i : ME) (s : SD) (v : D) (h : HP) : RS := (o s h).toS s (kJ2 i s v)
theorem mPutJ_ap : mPutJ a b c s h = (a s h).toS s (kJ1 b c s) := (rfl)
theorem kJ1_ap : kJ1 b c s x h = (b s h).toS s (kJ2 c s x) := (rfl)
theorem kJ2_ap : kJ2 c s x y h = (c s h).toS s (kJ3 s x y) := (rfl)
theorem kJ3_l {v : D} {j : Int} {m : Nat} (e : h[i]? = some (.lst xs)) (c : ixN xs.length j = some m) : kJ3 s v (.ref i) (.int j) h = .nx s (h.set i (.lst (xs.set m v))) := by
  unfold kJ3 putJ
  dsimp only
  rw [e]
  dsimp only
  rw [c]
  rfl
theorem mRaise_ap {c : Str} {g : List D → Option (List (Str × D))} : mRaise c g t s h = (t s h).toS s (kRaise c g s) := (rfl)
theorem kRaise_1 {c f : Str} {u : Str} (l : u.length ≤ 1000) : kRaise c (g1 f) s [.str u] h = .exc s c [(f, .str u)] h := by
  unfold kRaise g1
  dsimp only
  rw [if_pos l]
def oGet (x : Option (Option D)) (z : D) (h : HP) : Option (D × HP) := x.map fun o => (o.getD z, h)
theorem get1_r : getG (.ref i) [y] h = oGet (lookD h[i]? y) .non h := (rfl)
theorem get2_r {z : D} : getG (.ref i) [y, z] h = oGet (lookD h[i]? y) z h := (rfl)
theorem lookD_d {kvs : List (Key × D)} : lookD (some (.dic kvs)) y = (keyD y).map (getK kvs) := (rfl)
theorem inH_f {d : D} {neg : Bool} : inH neg x d h = (inC x d h).map fun b => (.bl (if neg then !b else b), h) := (rfl)
end
end PM
end
section
set_option Elab.async false
set_option linter.all false
set_option maxRecDepth 100000
set_option maxHeartbeats 4000000
namespace K13
open PySem L2 PM
def c_OPERATORS_WITH_LIMITS : D := .stp [.str "since", .str "until"]
def c_PREFIXES_WITH_LIMITS : D := .stp [.str "before", .str "next", .str "once", .str "held", .str "soon", .str "kept"]
def c_NUMBER : D := .str "number"
def c_WORD : D := .str "word"
def c_SIGNS_OF_WORDS : List (Str × D) := [("plus", .str "+"), ("less", .str "-")]
def subL : List (Str × Str × Bool) := [("WrongKind", "NoKind", false), ("WrongKind", "WatchError", true), ("WrongKind", "RuleError", true), ("WrongKind", "WrongKind", true), ("NoKind", "NoKind", true), ("NoKind", "WatchError", true), ("NoKind", "RuleError", true), ("NoKind", "WrongKind", false)]
def okE (c : Str) : Bool := decide (c ∈ (["WrongKind", "NoKind"] : List Str))


/-! _law_mix -/
noncomputable def b_u_law_mix : MS := mSeq (mSet 2 (m2 modG (mB toIntG (mCons (m2 addG (m2 addG (m2 mulG (mVar 0) (mC (.int 48271))) (m2 mulG (mVar 1) (mC (.int 69621)))) (mC (.int 11))) (mNil))) (mC (.int 2147483647))))
  (mRet (m2 modG (m2 modG (mB toIntG (mCons (m2 addG (m2 addG (m2 addG (m2 mulG (mVar 2) (mVar 2)) (m2 mulG (mVar 0) (mC (.int 40692)))) (m2 mulG (mVar 1) (mC (.int 7)))) (mC (.int 3))) (mNil))) (mC (.int 1000003))) (mC (.int 1000))))
noncomputable def m_u_law_mix : List D → HP → R D := runDef 3 b_u_law_mix


/-! _law_stream -/
noncomputable def L_u_law_stream_2 : MS := mIfS (mAnd (mTest (m2 gtG (mVar 4) (mC (.int 0)))) (mTest (m2 ltG (mB lenG (mCons (mVar 2) (mNil))) (mVar 1)))) (mSeq (mDrop (mMeth "list" appendG (mVar 2) (mCons (m2 modG (mB toIntG (mCons (mVar 4) (mNil))) (mC (.int 1000))) (mNil))))
  (mSet 4 (m2 fdivG (mVar 4) (mC (.int 1000))))) (mNext)
noncomputable def L_u_law_stream_3 : MS := mIfS (mTest (m2 ltG (mB lenG (mCons (mVar 2) (mNil))) (mVar 1))) (mDrop (mMeth "list" appendG (mVar 2) (mCons (mCall m_u_law_mix (mCons (mVar 4) (mCons (m2 addG (m2 mulG (mC (.int 64)) (mVar 5)) (mVar 3)) (mNil)))) (mNil)))) (mNext)
noncomputable def L_u_law_stream_1 : MS := mSeq (mSet 4 (m2 itemH (mVar 0) (mVar 3)))
  (mIfS (mTest (m2 geG (mVar 4) (m2 powG (mC (.int 10)) (mC (.int 18))))) (mFor (iR1 (mCons (mC (.int 60)) (mNil))) (gN 5) (L_u_law_stream_2)) (mFor (iR1 (mCons (mC (.int 3)) (mNil))) (gN 5) (L_u_law_stream_3)))
noncomputable def b_u_law_stream : MS := mSeq (mSet 2 (mLst (mNil)))
  (mSeq (mFor (iR1 (mCons (mB minL (mCons (mB lenG (mCons (mVar 0) (mNil))) (mCons (mC (.int 63)) (mNil)))) (mNil))) (gN 3) (L_u_law_stream_1))
  (mRet (mDisp [(mC (.str "row"), mVar 2), (mC (.str "at"), mC (.int 0)), (mC (.str "seed"), mB lenG (mCons (mVar 2) (mNil)))])))
noncomputable def m_u_law_stream : List D → HP → R D := runDef 6 b_u_law_stream


/-! _law_pick -/
noncomputable def b_u_law_pick : MS := mSeq (mSet 2 (m2 itemH (mVar 0) (mC (.str "at"))))
  (mSeq (mPutD (m2 addG (mVar 2) (mC (.int 1))) (mVar 0) (mC (.str "at")))
  (mSeq (mSet 3 (mCall m_u_law_mix (mCons (m2 itemH (mVar 0) (mC (.str "seed"))) (mCons (mVar 2) (mNil)))))
  (mSeq (mIfS (mTest (m2 ltG (mVar 2) (mB lenG (mCons (m2 itemH (mVar 0) (mC (.str "row"))) (mNil))))) (mSet 3 (m2 itemH (m2 itemH (mVar 0) (mC (.str "row"))) (mVar 2))) (mNext))
  (mRet (m2 modG (mB toIntG (mCons (mVar 3) (mNil))) (mVar 1))))))
noncomputable def m_u_law_pick : List D → HP → R D := runDef 4 b_u_law_pick


/-! _law_odd -/
noncomputable def b_u_law_odd : MS := mRet (mAndV (m2 gtG (m2 itemH (mVar 0) (mC (.str "odd"))) (mC (.int 0))) (m2 (eqG false) (mCall m_u_law_pick (mCons (mVar 0) (mCons (m2 itemH (mVar 0) (mC (.str "odd"))) (mNil)))) (mC (.int 0))))
noncomputable def m_u_law_odd : List D → HP → R D := runDef 1 b_u_law_odd


/-! _law_basic -/
noncomputable def b_u_law_basic : MS := mSeq (mIfS (mTest (mCall m_u_law_odd (mCons (mVar 0) (mNil)))) (mSet 1 (m2 itemH (mLst (mCons (mC (.str "number")) (mCons (mC (.str "word")) (mNil)))) (mCall m_u_law_pick (mCons (mVar 0) (mCons (mC (.int 2)) (mNil)))))) (mNext))
  (mSeq (mIfS (mTest (m2 (eqG false) (mVar 1) (mC (.str "number")))) (mRet (m2 itemH (mLst (mCons (mTup (mCons (mC (.str "num")) (mCons (mC (.int 3)) (mNil)))) (mCons (mTup (mCons (mC (.str "name")) (mCons (mC (.str "x")) (mNil)))) (mCons (mTup (mCons (mC (.str "name")) (mCons (mC (.str "y.4")) (mNil)))) (mCons (mTup (mCons (mC (.str "name")) (mCons (mC (.str "z")) (mNil)))) (mNil)))))) (mCall m_u_law_pick (mCons (mVar 0) (mCons (mC (.int 4)) (mNil)))))) (mNext))
  (mRet (m2 itemH (mLst (mCons (mTup (mCons (mC (.str "text")) (mCons (mC (.str "a")) (mNil)))) (mCons (mTup (mCons (mC (.str "name")) (mCons (mC (.str "u")) (mNil)))) (mCons (mTup (mCons (mC (.str "name")) (mCons (mC (.str "v.7")) (mNil)))) (mNil))))) (mCall m_u_law_pick (mCons (mVar 0) (mCons (mC (.int 3)) (mNil)))))))
noncomputable def m_u_law_basic : List D → HP → R D := runDef 2 b_u_law_basic


/-! _law_term -/
noncomputable def b_u_law_term (r_u_law_term : List D → HP → R D) : MS := mSeq (mIfS (mAnd (mTest (m2 gtG (mVar 1) (mC (.int 0)))) (mTest (m2 (eqG false) (mCall m_u_law_pick (mCons (mVar 0) (mCons (mC (.int 2)) (mNil)))) (mC (.int 0))))) (mRet (mTup (mCons (m2 itemH (mLst (mCons (mC (.str "plus")) (mCons (mC (.str "less")) (mNil)))) (mCall m_u_law_pick (mCons (mVar 0) (mCons (mC (.int 2)) (mNil))))) (mCons (mCall r_u_law_term (mCons (mVar 0) (mCons (m2 subG (mVar 1) (mC (.int 1))) (mNil)))) (mCons (mCall m_u_law_basic (mCons (mVar 0) (mCons (mC (.str "number")) (mNil)))) (mNil)))))) (mNext))
  (mRet (mCall m_u_law_basic (mCons (mVar 0) (mCons (mC (.str "number")) (mNil)))))
noncomputable def m_u_law_term : Nat → List D → HP → R D
  | 0 => runDef 2 mBad
  | n + 1 => runDef 2 (b_u_law_term (m_u_law_term n))


/-! _law_compare -/
noncomputable def b_u_law_compare : MS := mSeq (mSet 1 (m2 itemH (mLst (mCons (mC (.str "=")) (mCons (mC (.str "<")) (mCons (mC (.str "<=")) (mCons (mC (.str "=")) (mNil)))))) (mCall m_u_law_pick (mCons (mVar 0) (mCons (mC (.int 4)) (mNil))))))
  (mSeq (mSet 2 (mLst (mCons (mCall (m_u_law_term 20) (mCons (mVar 0) (mCons (mC (.int 2)) (mNil)))) (mCons (mCall (m_u_law_term 20) (mCons (mVar 0) (mCons (mC (.int 1)) (mNil)))) (mNil)))))
  (mSeq (mIfS (mAnd (mTest (m2 (eqG false) (mVar 1) (mC (.str "=")))) (mTest (m2 (eqG false) (mCall m_u_law_pick (mCons (mVar 0) (mCons (mC (.int 2)) (mNil)))) (mC (.int 0))))) (mSet 2 (mLst (mCons (mCall m_u_law_basic (mCons (mVar 0) (mCons (mC (.str "word")) (mNil)))) (mCons (mCall m_u_law_basic (mCons (mVar 0) (mCons (mC (.str "word")) (mNil)))) (mNil))))) (mNext))
  (mSeq (mIfS (mTest (mCall m_u_law_odd (mCons (mVar 0) (mNil)))) (mPutJ (mTup (mCons (mC (.str "name")) (mCons (m2 itemH (mLst (mCons (mC (.str "s.1")) (mCons (mC (.str "t")) (mNil)))) (mCall m_u_law_pick (mCons (mVar 0) (mCons (mC (.int 2)) (mNil))))) (mNil)))) (mVar 2) (mCall m_u_law_pick (mCons (mVar 0) (mCons (mC (.int 2)) (mNil))))) (mNext))
  (mRet (mTup (mCons (mC (.str "compare")) (mCons (mVar 1) (mCons (m2 itemH (mVar 2) (mC (.int 0))) (mCons (m2 itemH (mVar 2) (mC (.int 1))) (mNil))))))))))
noncomputable def m_u_law_compare : List D → HP → R D := runDef 3 b_u_law_compare


/-! _law_core -/
noncomputable def b_u_law_core (r_u_law_core : List D → HP → R D) : MS := mSeq (mSet 2 (mCall m_u_law_pick (mCons (mVar 0) (mCons (mC (.int 9)) (mNil)))))
  (mSeq (mIfS (mOr (mTest (m2 ltG (mVar 1) (mC (.int 1)))) (mTest (m2 ltG (mVar 2) (mC (.int 2))))) (mSeq (mIfS (mTest (m2 (eqG false) (mVar 2) (mC (.int 0)))) (mRet (mTup (mCons (mC (.str "true")) (mNil)))) (mNext))
  (mSeq (mIfS (mTest (m2 (eqG false) (m2 modG (mVar 2) (mC (.int 2))) (mC (.int 1)))) (mRet (mCall m_u_law_compare (mCons (mVar 0) (mNil)))) (mNext))
  (mSeq (mAsg (PM.gTup 2 (PM.gCons (gN 3) (PM.gCons (gN 4) (PM.gNil)))) (m2 itemH (mLst (mCons (mTup (mCons (mC (.str "p")) (mCons (mLst (mCons (mC (.str "number")) (mNil))) (mNil)))) (mCons (mTup (mCons (mC (.str "q")) (mCons (mLst (mCons (mC (.str "word")) (mCons (mC (.str "number")) (mNil)))) (mNil)))) (mNil)))) (mCall m_u_law_pick (mCons (mVar 0) (mCons (mC (.int 2)) (mNil))))))
  (mRet (mTup (mCons (mC (.str "event")) (mCons (mVar 3) (mCons (mB toTupG (mCons (mLcG (iA (mVar 4)) (.one 5) (mYes) (mCall m_u_law_basic (mCons (mVar 0) (mCons (mVar 5) (mNil))))) (mNil))) (mNil))))))))) (mNext))
  (mSeq (mIfS (mTest (m2 ltG (mVar 2) (mC (.int 4)))) (mRet (mTup (mCons (m2 itemH (mLst (mCons (mC (.str "and")) (mCons (mC (.str "or")) (mNil)))) (m2 subG (mVar 2) (mC (.int 2)))) (mCons (mCall r_u_law_core (mCons (mVar 0) (mCons (m2 subG (mVar 1) (mC (.int 1))) (mNil)))) (mCons (mCall r_u_law_core (mCons (mVar 0) (mCons (m2 subG (mVar 1) (mC (.int 1))) (mNil)))) (mNil)))))) (mNext))
  (mSeq (mIfS (mTest (m2 (eqG false) (mVar 2) (mC (.int 4)))) (mRet (mTup (mCons (mC (.str "not")) (mCons (mCall r_u_law_core (mCons (mVar 0) (mCons (m2 subG (mVar 1) (mC (.int 1))) (mNil)))) (mNil))))) (mNext))
  (mSeq (mIfS (mTest (m2 (eqG false) (mVar 2) (mC (.int 5)))) (mRet (mTup (mCons (mC (.str "some")) (mCons (m2 itemH (mLst (mCons (mC (.str "y.4")) (mCons (mC (.str "v.7")) (mNil)))) (mCall m_u_law_pick (mCons (mVar 0) (mCons (mC (.int 2)) (mNil))))) (mCons (mCall r_u_law_core (mCons (mVar 0) (mCons (m2 subG (mVar 1) (mC (.int 1))) (mNil)))) (mNil)))))) (mNext))
  (mSeq (mIfS (mTest (m2 (eqG false) (mVar 2) (mC (.int 6)))) (mRet (mTup (mCons (mC (.str "before")) (mCons (mC (.int 0)) (mCons (mC (.int 5)) (mCons (mCall r_u_law_core (mCons (mVar 0) (mCons (m2 subG (mVar 1) (mC (.int 1))) (mNil)))) (mNil))))))) (mNext))
  (mSeq (mIfS (mTest (m2 (eqG false) (mVar 2) (mC (.int 7)))) (mRet (mTup (mCons (mC (.str "until")) (mCons (mC (.int 0)) (mCons (mC (.int 5)) (mCons (mCall r_u_law_core (mCons (mVar 0) (mCons (m2 subG (mVar 1) (mC (.int 1))) (mNil)))) (mCons (mCall r_u_law_core (mCons (mVar 0) (mCons (m2 subG (mVar 1) (mC (.int 1))) (mNil)))) (mNil)))))))) (mNext))
  (mSeq (mSet 6 (mCall m_u_law_basic (mCons (mVar 0) (mCons (mC (.str "number")) (mNil)))))
  (mSeq (mSet 7 (mCall m_u_law_basic (mCons (mVar 0) (mCons (mC (.str "number")) (mNil)))))
  (mSeq (mIfS (mOr (mTest (m2 (eqG true) (m2 itemH (mVar 6) (mC (.int 0))) (mC (.str "name")))) (mTest (m2 (eqG true) (m2 itemH (mVar 7) (mC (.int 0))) (mC (.str "name"))))) (mRet (mTup (mCons (mC (.str "group")) (mCons (mC (.str "z")) (mCons (mC (.str "count")) (mCons (mC .non) (mCons (mTup (mNil)) (mCons (mCall r_u_law_core (mCons (mVar 0) (mCons (m2 subG (mVar 1) (mC (.int 1))) (mNil)))) (mNil))))))))) (mNext))
  (mRet (mTup (mCons (mC (.str "group")) (mCons (m2 itemH (mVar 6) (mC (.int 1))) (mCons (m2 itemH (mLst (mCons (mC (.str "sum")) (mCons (mC (.str "least")) (mCons (mC (.str "most")) (mNil))))) (mCall m_u_law_pick (mCons (mVar 0) (mCons (mC (.int 3)) (mNil))))) (mCons (m2 itemH (mVar 7) (mC (.int 1))) (mCons (mTup (mNil)) (mCons (mCall r_u_law_core (mCons (mVar 0) (mCons (m2 subG (mVar 1) (mC (.int 1))) (mNil)))) (mNil))))))))))))))))))
noncomputable def m_u_law_core : Nat → List D → HP → R D
  | 0 => runDef 8 mBad
  | n + 1 => runDef 8 (b_u_law_core (m_u_law_core n))


/-! _add_steps_of_sides -/
noncomputable def L_u_add_steps_of_sides_1 (r_u_add_steps_of_sides r_u_add_steps_inside : List D → HP → R D) : MS := mSeq (mDrop (mCall r_u_add_steps_inside (mCons (mVar 4) (mCons (mVar 3) (mNil)))))
  (mDrop (mMeth "list" appendG (mVar 3) (mCons (mTup (mCons (mC (.str "need")) (mCons (mC c_NUMBER) (mCons (mVar 4) (mCons (mVar 0) (mNil)))))) (mNil))))
noncomputable def b_u_add_steps_of_sides (r_u_add_steps_of_sides r_u_add_steps_inside : List D → HP → R D) : MS := mFor (iA (mTup (mCons (mVar 1) (mCons (mVar 2) (mNil))))) (gN 4) (L_u_add_steps_of_sides_1 r_u_add_steps_of_sides r_u_add_steps_inside)

/-! _add_steps_inside -/
noncomputable def b_u_add_steps_inside (r_u_add_steps_of_sides r_u_add_steps_inside : List D → HP → R D) : MS := mIfS (mTest (mInK c_SIGNS_OF_WORDS (m2 itemH (mVar 0) (mC (.int 0))))) (mSeq (mAsg (PM.gTup 3 (PM.gCons (gN 2) (PM.gCons (gN 3) (PM.gCons (gN 4) (PM.gNil))))) (mVar 0))
  (mDrop (mCall r_u_add_steps_of_sides (mCons (mAtK c_SIGNS_OF_WORDS (mVar 2)) (mCons (mVar 3) (mCons (mVar 4) (mCons (mVar 1) (mNil)))))))) (mNext)
mutual
noncomputable def m_u_add_steps_of_sides : Nat → List D → HP → R D
  | 0 => runDef 5 mBad
  | n + 1 => runDef 5 (b_u_add_steps_of_sides (m_u_add_steps_of_sides n) (m_u_add_steps_inside n))
noncomputable def m_u_add_steps_inside : Nat → List D → HP → R D
  | 0 => runDef 5 mBad
  | n + 1 => runDef 5 (b_u_add_steps_inside (m_u_add_steps_of_sides n) (m_u_add_steps_inside n))
end


/-! _add_steps_of_compare -/
noncomputable def b_u_add_steps_of_compare : MS := mSeq (mAsg (PM.gTup 4 (PM.gCons (gN 2) (PM.gCons (gN 3) (PM.gCons (gN 4) (PM.gCons (gN 5) (PM.gNil)))))) (mVar 0))
  (mIfS (mTest (m2 (eqG false) (mVar 3) (mC (.str "=")))) (mSeq (mDrop (mCall (m_u_add_steps_inside 20) (mCons (mVar 4) (mCons (mVar 1) (mNil)))))
  (mSeq (mDrop (mCall (m_u_add_steps_inside 20) (mCons (mVar 5) (mCons (mVar 1) (mNil)))))
  (mDrop (mMeth "list" appendG (mVar 1) (mCons (mTup (mCons (mC (.str "alike")) (mCons (mVar 4) (mCons (mVar 5) (mNil))))) (mNil)))))) (mDrop (mCall (m_u_add_steps_of_sides 20) (mCons (mVar 3) (mCons (mVar 4) (mCons (mVar 5) (mCons (mVar 1) (mNil))))))))
noncomputable def m_u_add_steps_of_compare : List D → HP → R D := runDef 6 b_u_add_steps_of_compare


/-! first_rule_in -/
noncomputable def b_first_rule_in : MS := mSeq (mSet 1 (m2 itemH (mVar 0) (mC (.int 0))))
  (mRet (mIfE (mOr (mTest (m2 (inH false) (mVar 1) (mC c_OPERATORS_WITH_LIMITS))) (mTest (m2 (inH false) (mVar 1) (mC c_PREFIXES_WITH_LIMITS)))) (mC (.int 3)) (mC (.int 1))))
noncomputable def m_first_rule_in : List D → HP → R D := runDef 2 b_first_rule_in


/-! rules_in -/
noncomputable def b_rules_in : MS := mRet (mSl slT (mVar 0) (mPart (mCall m_first_rule_in (mCons (mVar 0) (mNil)))) mNoPart)
noncomputable def m_rules_in : List D → HP → R D := runDef 1 b_rules_in


/-! _add_steps -/
noncomputable def L_u_add_steps_1 (r_u_add_steps : List D → HP → R D) : MS := mDrop (mMeth "list" appendG (mVar 2) (mCons (mTup (mCons (mC (.str "need")) (mCons (mVar 4) (mCons (mVar 5) (mCons (m2 itemH (mVar 0) (mC (.int 1))) (mNil)))))) (mNil)))
noncomputable def L_u_add_steps_2 (r_u_add_steps : List D → HP → R D) : MS := mDrop (mMeth "list" appendG (mVar 2) (mCons (mTup (mCons (mC (.str "need")) (mCons (mC c_NUMBER) (mCons (mTup (mCons (mC (.str "name")) (mCons (mVar 12) (mNil)))) (mCons (mVar 8) (mNil)))))) (mNil)))
noncomputable def L_u_add_steps_3 (r_u_add_steps : List D → HP → R D) : MS := mDrop (mCall r_u_add_steps (mCons (mVar 10) (mCons (mVar 1) (mCons (mVar 2) (mNil)))))
noncomputable def b_u_add_steps (r_u_add_steps : List D → HP → R D) : MS := mSeq (mSet 3 (m2 itemH (mVar 0) (mC (.int 0))))
  (mIfS (mTest (m2 (eqG false) (mVar 3) (mC (.str "event")))) (mFor (iZ (mCons (m2 itemH (mVar 1) (m2 itemH (mVar 0) (mC (.int 1)))) (mCons (m2 itemH (mVar 0) (mC (.int 2))) (mNil)))) (PM.gTup 2 (PM.gCons (gN 4) (PM.gCons (gN 5) (PM.gNil)))) (L_u_add_steps_1 r_u_add_steps)) (mIfS (mTest (m2 (eqG false) (mVar 3) (mC (.str "compare")))) (mDrop (mCall m_u_add_steps_of_compare (mCons (mVar 0) (mCons (mVar 2) (mNil))))) (mIfS (mTest (m2 (eqG false) (mVar 3) (mC (.str "some")))) (mSeq (mDrop (mMeth "list" appendG (mVar 2) (mCons (mTup (mCons (mC (.str "bound")) (mCons (mTup (mCons (mC (.str "name")) (mCons (m2 itemH (mVar 0) (mC (.int 1))) (mNil)))) (mNil)))) (mNil))))
  (mDrop (mCall r_u_add_steps (mCons (m2 itemH (mVar 0) (mC (.int 2))) (mCons (mVar 1) (mCons (mVar 2) (mNil))))))) (mIfS (mTest (m2 (eqG false) (mVar 3) (mC (.str "group")))) (mSeq (mAsg (PM.gTup 6 (PM.gCons (gN 6) (PM.gCons (gN 7) (PM.gCons (gN 8) (PM.gCons (gN 9) (PM.gCons (gN 6) (PM.gCons (gN 10) (PM.gNil)))))))) (mVar 0))
  (mSeq (mDrop (mCall r_u_add_steps (mCons (mVar 10) (mCons (mVar 1) (mCons (mVar 2) (mNil))))))
  (mSeq (mSet 11 (mIfE (mTest (m2 (isG false) (mVar 9) (mC .non))) (mTup (mCons (mVar 7) (mNil))) (mTup (mCons (mVar 7) (mCons (mVar 9) (mNil))))))
  (mFor (iA (mVar 11)) (gN 12) (L_u_add_steps_2 r_u_add_steps))))) (mFor (iA (mCall m_rules_in (mCons (mVar 0) (mNil)))) (gN 10) (L_u_add_steps_3 r_u_add_steps))))))
noncomputable def m_u_add_steps : Nat → List D → HP → R D
  | 0 => runDef 13 mBad
  | n + 1 => runDef 13 (b_u_add_steps (m_u_add_steps n))


/-! _give -/
noncomputable def b_u_give : MS := mIfS (mAnd (mTest (m2 (eqG false) (m2 itemH (mVar 0) (mC (.int 0))) (mC (.str "name")))) (mTest (m2 (isG true) (mVar 1) (mC .non)))) (mDrop (mMeth "dict" setdG (mVar 2) (mCons (m2 itemH (mVar 0) (mC (.int 1))) (mCons (mVar 1) (mNil))))) (mNext)
noncomputable def m_u_give : List D → HP → R D := runDef 3 b_u_give


/-! _kind -/
noncomputable def b_u_kind : MS := mSeq (mSet 2 (m2 itemH (mVar 0) (mC (.int 0))))
  (mSeq (mIfS (mTest (m2 (eqG false) (mVar 2) (mC (.str "name")))) (mRet (mMeth "dict" getG (mVar 1) (mCons (m2 itemH (mVar 0) (mC (.int 1))) (mNil)))) (mNext))
  (mRet (mIfE (mTest (m2 (eqG false) (mVar 2) (mC (.str "text")))) (mC c_WORD) (mC c_NUMBER))))
noncomputable def m_u_kind : List D → HP → R D := runDef 3 b_u_kind


/-! _learn -/
noncomputable def b_u_learn : MS := mIfS (mTest (m2 (eqG false) (m2 itemH (mVar 0) (mC (.int 0))) (mC (.str "need")))) (mDrop (mCall m_u_give (mCons (m2 itemH (mVar 0) (mC (.int 2))) (mCons (m2 itemH (mVar 0) (mC (.int 1))) (mCons (mVar 1) (mNil)))))) (mIfS (mTest (m2 (eqG false) (m2 itemH (mVar 0) (mC (.int 0))) (mC (.str "alike")))) (mSeq (mAsg (PM.gTup 3 (PM.gCons (gN 2) (PM.gCons (gN 3) (PM.gCons (gN 4) (PM.gNil))))) (mVar 0))
  (mSeq (mDrop (mCall m_u_give (mCons (mVar 3) (mCons (mCall m_u_kind (mCons (mVar 4) (mCons (mVar 1) (mNil)))) (mCons (mVar 1) (mNil))))))
  (mDrop (mCall m_u_give (mCons (mVar 4) (mCons (mCall m_u_kind (mCons (mVar 3) (mCons (mVar 1) (mNil)))) (mCons (mVar 1) (mNil)))))))) (mNext))
noncomputable def m_u_learn : List D → HP → R D := runDef 5 b_u_learn


/-! _check -/
noncomputable def b_u_check : MS := mIfS (mTest (m2 (eqG false) (m2 itemH (mVar 0) (mC (.int 0))) (mC (.str "need")))) (mSeq (mAsg (PM.gTup 4 (PM.gCons (gN 2) (PM.gCons (gN 3) (PM.gCons (gN 4) (PM.gCons (gN 5) (PM.gNil)))))) (mVar 0))
  (mIfS (mTest (m2 (inH true) (mCall m_u_kind (mCons (mVar 4) (mCons (mVar 1) (mNil)))) (mTup (mCons (mVar 3) (mCons (mC .non) (mNil)))))) (mRaise "WrongKind" (g1 "word") (mCons (mVar 5) (mNil))) (mNext))) (mIfS (mTest (m2 (eqG false) (m2 itemH (mVar 0) (mC (.int 0))) (mC (.str "alike")))) (mSeq (mPar 6 7 (mCons (mCall m_u_kind (mCons (m2 itemH (mVar 0) (mC (.int 1))) (mCons (mVar 1) (mNil)))) (mCons (mCall m_u_kind (mCons (m2 itemH (mVar 0) (mC (.int 2))) (mCons (mVar 1) (mNil)))) (mNil))))
  (mIfS (mAnd (mTest (m2 (isG true) (mVar 6) (mC .non))) (mAnd (mTest (m2 (isG true) (mVar 7) (mC .non))) (mTest (m2 (eqG true) (mVar 6) (mVar 7))))) (mRaise "WrongKind" (g1 "word") (mCons (mC (.str "=")) (mNil))) (mNext))) (mNext))
noncomputable def m_u_check : List D → HP → R D := runDef 8 b_u_check


/-! _check_known -/
noncomputable def L_u_check_known_1 : MS := mIfS (mTest (m2 (isG false) (mCall m_u_kind (mCons (mVar 2) (mCons (mVar 1) (mNil)))) (mC .non))) (mRaise "NoKind" (g1 "word") (mCons (m2 itemH (mMeth "str" partG (m2 itemH (mVar 2) (mC (.int 1))) (mCons (mC (.str ".")) (mNil))) (mC (.int 0))) (mNil))) (mNext)
noncomputable def b_u_check_known : MS := mIfS (mTest (m2 (eqG true) (m2 itemH (mVar 0) (mC (.int 0))) (mC (.str "need")))) (mFor (iA (mSl slT (mVar 0) (mPart (mC (.int 1))) mNoPart)) (gN 2) (L_u_check_known_1)) (mNext)
noncomputable def m_u_check_known : List D → HP → R D := runDef 3 b_u_check_known


/-! kinds_of -/
noncomputable def L_kinds_of_2 : MS := mDrop (mCall m_u_learn (mCons (mVar 5) (mCons (mVar 3) (mNil))))
noncomputable def T_kinds_of_1 : MT := mTest (m2 ltG (mVar 4) (mB lenQ (mCons (mVar 3) (mNil))))
noncomputable def L_kinds_of_1 : MS := mSeq (mSet 4 (mB lenQ (mCons (mVar 3) (mNil))))
  (mFor (iA (mVar 2)) (gN 5) (L_kinds_of_2))
noncomputable def L_kinds_of_3 : MS := mDrop (mCall m_u_check (mCons (mVar 5) (mCons (mVar 3) (mNil))))
noncomputable def L_kinds_of_4 : MS := mDrop (mCall m_u_check_known (mCons (mVar 5) (mCons (mVar 3) (mNil))))
noncomputable def b_kinds_of : MS := mSeq (mSet 2 (mLst (mNil)))
  (mSeq (mDrop (mCall (m_u_add_steps 20) (mCons (mVar 0) (mCons (mVar 1) (mCons (mVar 2) (mNil))))))
  (mSeq (mSet 3 (mDict0))
  (mSeq (mSet 4 (m1 negG (mC (.int 1))))
  (mSeq (mWhile (T_kinds_of_1) (L_kinds_of_1))
  (mSeq (mFor (iA (mVar 2)) (gN 5) (L_kinds_of_3))
  (mSeq (mFor (iA (mVar 2)) (gN 5) (L_kinds_of_4))
  (mRet (mVar 3))))))))
noncomputable def m_kinds_of : List D → HP → R D := runDef 6 b_kinds_of


/-! _law_told -/
noncomputable def b_u_law_told : MS := mTry (subOf subL) okE [("WrongKind", 1, fCatX (fTup (fCons (fC (.str "wrong")) (fCons (fF "word") (fNil)))) (fTup (fCons (fC (.str "more")) (fNil))) (fOr (fNot (fIs (subOf subL) ["RuleError"])) (fIs (subOf subL) ["NoKind"]))), ("NoKind", 1, fCatX (fTup (fCons (fC (.str "none")) (fCons (fF "word") (fNil)))) (fTup (fCons (fC (.str "more")) (fNil))) (fOr (fNot (fIs (subOf subL) ["RuleError"])) (fNot (fIs (subOf subL) ["WatchError"]))))] (mRet (mCall m_kinds_of (mCons (mVar 0) (mCons (mDisp [(mC (.str "p"), mTup (mCons (mC (.str "number")) (mNil))), (mC (.str "q"), mTup (mCons (mC (.str "word")) (mCons (mC (.str "number")) (mNil))))]) (mNil)))))
noncomputable def m_u_law_told : List D → HP → R D := runDef 2 b_u_law_told


/-! _law_term_steps -/
noncomputable def L_u_law_term_steps_1 (r_u_law_term_steps : List D → HP → R D) : MS := mSet 1 (m2 addL (m2 addL (mVar 1) (mCall r_u_law_term_steps (mCons (mVar 2) (mNil)))) (mLst (mCons (mTup (mCons (mC (.str "is")) (mCons (mVar 2) (mCons (mC (.str "number")) (mCons (m2 itemH (mDisp [(mC (.str "plus"), mC (.str "+")), (mC (.str "less"), mC (.str "-"))]) (m2 itemH (mVar 0) (mC (.int 0)))) (mNil)))))) (mNil))))
noncomputable def b_u_law_term_steps (r_u_law_term_steps : List D → HP → R D) : MS := mSeq (mSet 1 (mLst (mNil)))
  (mSeq (mIfS (mTest (m2 (inH false) (m2 itemH (mVar 0) (mC (.int 0))) (mTup (mCons (mC (.str "plus")) (mCons (mC (.str "less")) (mNil)))))) (mFor (iA (mSl slT (mVar 0) (mPart (mC (.int 1))) mNoPart)) (gN 2) (L_u_law_term_steps_1 r_u_law_term_steps)) (mNext))
  (mRet (mVar 1)))
noncomputable def m_u_law_term_steps : Nat → List D → HP → R D
  | 0 => runDef 3 mBad
  | n + 1 => runDef 3 (b_u_law_term_steps (m_u_law_term_steps n))


/-! _law_steps -/
noncomputable def L_u_law_steps_1 (r_u_law_steps : List D → HP → R D) : MS := mIfS (mAnd (mTest (mB isiT (mCons (mVar 5) (mCons (mC (.ty "tuple")) (mNil))))) (mTest (m2 (eqG true) (mVar 5) (mTup (mNil))))) (mSet 4 (m2 addL (mVar 4) (mCall r_u_law_steps (mCons (mVar 5) (mNil))))) (mNext)
noncomputable def b_u_law_steps (r_u_law_steps : List D → HP → R D) : MS := mSeq (mSet 1 (m2 itemH (mVar 0) (mC (.int 0))))
  (mSeq (mIfS (mTest (m2 (eqG false) (mVar 1) (mC (.str "event")))) (mSeq (mSet 2 (m2 itemH (mDisp [(mC (.str "p"), mLst (mCons (mC (.str "number")) (mNil))), (mC (.str "q"), mLst (mCons (mC (.str "word")) (mCons (mC (.str "number")) (mNil))))]) (m2 itemH (mVar 0) (mC (.int 1)))))
  (mRet (mLcG (iR1 (mCons (mB lenG (mCons (mVar 2) (mNil))) (mNil))) (.one 3) (mYes) (mTup (mCons (mC (.str "is")) (mCons (m2 itemH (m2 itemH (mVar 0) (mC (.int 2))) (mVar 3)) (mCons (m2 itemH (mVar 2) (mVar 3)) (mCons (m2 itemH (mVar 0) (mC (.int 1))) (mNil))))))))) (mNext))
  (mSeq (mIfS (mTest (m2 (eqG false) (mVar 1) (mC (.str "compare")))) (mSeq (mSet 4 (mCall (m_u_law_term_steps 20) (mCons (m2 itemH (mVar 0) (mC (.int 2))) (mNil))))
  (mSeq (mIfS (mTest (m2 (eqG false) (m2 itemH (mVar 0) (mC (.int 1))) (mC (.str "=")))) (mRet (m2 addL (m2 addL (mVar 4) (mCall (m_u_law_term_steps 20) (mCons (m2 itemH (mVar 0) (mC (.int 3))) (mNil)))) (mLst (mCons (mTup (mCons (mC (.str "same")) (mCons (m2 itemH (mVar 0) (mC (.int 2))) (mCons (m2 itemH (mVar 0) (mC (.int 3))) (mCons (mC (.str "=")) (mNil)))))) (mNil))))) (mNext))
  (mSeq (mDrop (mMeth "list" appendG (mVar 4) (mCons (mTup (mCons (mC (.str "is")) (mCons (m2 itemH (mVar 0) (mC (.int 2))) (mCons (mC (.str "number")) (mCons (m2 itemH (mVar 0) (mC (.int 1))) (mNil)))))) (mNil))))
  (mRet (m2 addL (m2 addL (mVar 4) (mCall (m_u_law_term_steps 20) (mCons (m2 itemH (mVar 0) (mC (.int 3))) (mNil)))) (mLst (mCons (mTup (mCons (mC (.str "is")) (mCons (m2 itemH (mVar 0) (mC (.int 3))) (mCons (mC (.str "number")) (mCons (m2 itemH (mVar 0) (mC (.int 1))) (mNil)))))) (mNil)))))))) (mNext))
  (mSeq (mSet 4 (mLst (mNil)))
  (mSeq (mFor (iA (mSl slT (mVar 0) (mPart (mC (.int 1))) mNoPart)) (gN 5) (L_u_law_steps_1 r_u_law_steps))
  (mSeq (mIfS (mTest (m2 (eqG false) (mVar 1) (mC (.str "group")))) (mSeq (mDrop (mMeth "list" appendG (mVar 4) (mCons (mTup (mCons (mC (.str "is")) (mCons (mTup (mCons (mC (.str "name")) (mCons (m2 itemH (mVar 0) (mC (.int 1))) (mNil)))) (mCons (mC (.str "number")) (mCons (m2 itemH (mVar 0) (mC (.int 2))) (mNil)))))) (mNil))))
  (mIfS (mTest (m2 (isG true) (m2 itemH (mVar 0) (mC (.int 3))) (mC .non))) (mDrop (mMeth "list" appendG (mVar 4) (mCons (mTup (mCons (mC (.str "is")) (mCons (mTup (mCons (mC (.str "name")) (mCons (m2 itemH (mVar 0) (mC (.int 3))) (mNil)))) (mCons (mC (.str "number")) (mCons (m2 itemH (mVar 0) (mC (.int 2))) (mNil)))))) (mNil)))) (mNext))) (mNext))
  (mRet (mVar 4)))))))
noncomputable def m_u_law_steps : Nat → List D → HP → R D
  | 0 => runDef 6 mBad
  | n + 1 => runDef 6 (b_u_law_steps (m_u_law_steps n))


/-! _law_learn -/
noncomputable def b_u_law_learn : MS := mIfS (mAnd (mTest (m2 (eqG false) (m2 itemH (mVar 1) (mC (.int 0))) (mC (.str "name")))) (mAnd (mTest (m2 (isG true) (mVar 2) (mC .non))) (mTest (m2 (inH true) (m2 itemH (mVar 1) (mC (.int 1))) (mVar 0))))) (mPutD (mVar 2) (mVar 0) (m2 itemH (mVar 1) (mC (.int 1)))) (mNext)
noncomputable def m_u_law_learn : List D → HP → R D := runDef 3 b_u_law_learn


/-! _law_kind -/
noncomputable def b_u_law_kind : MS := mSeq (mIfS (mTest (m2 (eqG false) (m2 itemH (mVar 1) (mC (.int 0))) (mC (.str "name")))) (mRet (mMeth "dict" getG (mVar 0) (mCons (m2 itemH (mVar 1) (mC (.int 1))) (mNil)))) (mNext))
  (mRet (m2 itemH (mLst (mCons (mC (.str "number")) (mCons (mC (.str "word")) (mNil)))) (mB toIntG (mCons (m2 (eqG false) (m2 itemH (mVar 1) (mC (.int 0))) (mC (.str "text"))) (mNil)))))
noncomputable def m_u_law_kind : List D → HP → R D := runDef 2 b_u_law_kind


/-! _law_term_names -/
noncomputable def b_u_law_term_names (r_u_law_term_names : List D → HP → R D) : MS := mSeq (mIfS (mTest (m2 (eqG false) (m2 itemH (mVar 0) (mC (.int 0))) (mC (.str "name")))) (mRet (mLst (mCons (m2 itemH (mVar 0) (mC (.int 1))) (mNil)))) (mNext))
  (mSeq (mIfS (mTest (m2 (inH false) (m2 itemH (mVar 0) (mC (.int 0))) (mTup (mCons (mC (.str "plus")) (mCons (mC (.str "less")) (mNil)))))) (mRet (m2 addL (mCall r_u_law_term_names (mCons (m2 itemH (mVar 0) (mC (.int 1))) (mNil))) (mCall r_u_law_term_names (mCons (m2 itemH (mVar 0) (mC (.int 2))) (mNil))))) (mNext))
  (mRet (mLst (mNil))))
noncomputable def m_u_law_term_names : Nat → List D → HP → R D
  | 0 => runDef 1 mBad
  | n + 1 => runDef 1 (b_u_law_term_names (m_u_law_term_names n))


/-! _law_all -/
noncomputable def L_u_law_all_1 (r_u_law_all : List D → HP → R D) : MS := mSet 1 (m2 addL (mVar 1) (mCall (m_u_law_term_names 20) (mCons (mVar 2) (mNil))))
noncomputable def L_u_law_all_2 (r_u_law_all : List D → HP → R D) : MS := mIfS (mAnd (mTest (mB isiT (mCons (mVar 2) (mCons (mC (.ty "tuple")) (mNil))))) (mTest (m2 (eqG true) (mVar 2) (mTup (mNil))))) (mSet 1 (m2 addL (mVar 1) (mCall r_u_law_all (mCons (mVar 2) (mNil))))) (mNext)
noncomputable def b_u_law_all (r_u_law_all : List D → HP → R D) : MS := mSeq (mSet 1 (mLst (mNil)))
  (mSeq (mIfS (mTest (m2 (eqG false) (m2 itemH (mVar 0) (mC (.int 0))) (mC (.str "event")))) (mSeq (mFor (iA (m2 itemH (mVar 0) (mC (.int 2)))) (gN 2) (L_u_law_all_1 r_u_law_all))
  (mRet (mVar 1))) (mNext))
  (mSeq (mIfS (mTest (m2 (eqG false) (m2 itemH (mVar 0) (mC (.int 0))) (mC (.str "compare")))) (mRet (m2 addL (mCall (m_u_law_term_names 20) (mCons (m2 itemH (mVar 0) (mC (.int 2))) (mNil))) (mCall (m_u_law_term_names 20) (mCons (m2 itemH (mVar 0) (mC (.int 3))) (mNil))))) (mNext))
  (mSeq (mIfS (mTest (m2 (eqG false) (m2 itemH (mVar 0) (mC (.int 0))) (mC (.str "some")))) (mDrop (mMeth "list" appendG (mVar 1) (mCons (m2 itemH (mVar 0) (mC (.int 1))) (mNil)))) (mNext))
  (mSeq (mFor (iA (mSl slT (mVar 0) (mPart (mC (.int 1))) mNoPart)) (gN 2) (L_u_law_all_2 r_u_law_all))
  (mRet (mVar 1))))))
noncomputable def m_u_law_all : Nat → List D → HP → R D
  | 0 => runDef 3 mBad
  | n + 1 => runDef 3 (b_u_law_all (m_u_law_all n))


/-! _law_due -/
noncomputable def L_u_law_due_2 : MS := mIfS (mTest (m2 (eqG false) (mVar 4) (mC (.str "is")))) (mDrop (mCall m_u_law_learn (mCons (mVar 2) (mCons (mVar 5) (mCons (mVar 6) (mNil)))))) (mSeq (mDrop (mCall m_u_law_learn (mCons (mVar 2) (mCons (mVar 5) (mCons (mCall m_u_law_kind (mCons (mVar 2) (mCons (mVar 6) (mNil)))) (mNil))))))
  (mDrop (mCall m_u_law_learn (mCons (mVar 2) (mCons (mVar 6) (mCons (mCall m_u_law_kind (mCons (mVar 2) (mCons (mVar 5) (mNil)))) (mNil)))))))
noncomputable def L_u_law_due_1 : MS := mFor (iA (mVar 1)) (PM.gTup 4 (PM.gCons (gN 4) (PM.gCons (gN 5) (PM.gCons (gN 6) (PM.gCons (gN 7) (PM.gNil)))))) (L_u_law_due_2)
noncomputable def L_u_law_due_3 : MS := mSeq (mSet 8 (mCall m_u_law_kind (mCons (mVar 2) (mCons (mVar 5) (mNil)))))
  (mSeq (mSet 9 (mVar 6))
  (mSeq (mIfS (mTest (m2 (eqG false) (mVar 4) (mC (.str "same")))) (mSet 9 (mCall m_u_law_kind (mCons (mVar 2) (mCons (mVar 6) (mNil))))) (mNext))
  (mIfS (mAnd (mTest (m2 (isG true) (mVar 8) (mC .non))) (mAnd (mTest (m2 (isG true) (mVar 9) (mC .non))) (mTest (m2 (eqG true) (mVar 8) (mVar 9))))) (mRet (mTup (mCons (mC (.str "wrong")) (mCons (mVar 7) (mNil))))) (mNext))))
noncomputable def L_u_law_due_4 : MS := mIfS (mTest (m2 (inH true) (mVar 7) (mVar 2))) (mRet (mTup (mCons (mC (.str "none")) (mCons (m2 itemH (mMeth "str" splitG (mVar 7) (mCons (mC (.str ".")) (mNil))) (mC (.int 0))) (mNil))))) (mNext)
noncomputable def b_u_law_due : MS := mSeq (mSet 1 (mCall (m_u_law_steps 20) (mCons (mVar 0) (mNil))))
  (mSeq (mSet 2 (mDict0))
  (mSeq (mFor (iR1 (mCons (mC (.int 12)) (mNil))) (gN 3) (L_u_law_due_1))
  (mSeq (mFor (iA (mVar 1)) (PM.gTup 4 (PM.gCons (gN 4) (PM.gCons (gN 5) (PM.gCons (gN 6) (PM.gCons (gN 7) (PM.gNil)))))) (L_u_law_due_3))
  (mSeq (mFor (iA (mCall (m_u_law_all 20) (mCons (mVar 0) (mNil)))) (gN 7) (L_u_law_due_4))
  (mRet (mVar 2))))))
noncomputable def m_u_law_due : List D → HP → R D := runDef 10 b_u_law_due


/-! law -/
noncomputable def L_law_1 : MS := mSeq (mPutD (mVar 2) (mVar 1) (mC (.str "odd")))
  (mSeq (mSet 3 (mCall (m_u_law_core 20) (mCons (mVar 1) (mCons (mC (.int 4)) (mNil)))))
  (mIfS (mTest (m2 neQ (mCall m_u_law_told (mCons (mVar 3) (mNil))) (mCall m_u_law_due (mCons (mVar 3) (mNil))))) (mRet (mC (.bl false))) (mNext)))
noncomputable def b_law : MS := mSeq (mSet 1 (mCall m_u_law_stream (mCons (mVar 0) (mCons (mC (.int 300)) (mNil)))))
  (mSeq (mFor (iA (mLst (mCons (mC (.int 0)) (mCons (mC (.int 25)) (mCons (mC (.int 6)) (mCons (mC (.int 6)) (mNil))))))) (gN 2) (L_law_1))
  (mRet (mC (.bl true))))
noncomputable def m_law : List D → HP → R D := runDef 4 b_law

end K13
end
section
set_option Elab.async false
set_option linter.all false
set_option maxRecDepth 100000
set_option maxHeartbeats 1000000
namespace K13
open PySem L2 PM
local macro_rules | `(tactic| walk_at "pm") => `(tactic| simp only [bind_ok, toS_ok, seq_nx, seq_rt, seq_bk, seq_ct, seq_exc, bind_exc, toS_exc, mSeq_ap, mNext_ap, mSet_ap, kSet_ap, mAsg_ap, kAsg_ap, ofS_some, gN_ap, gTup_ap, gCons_ap, gNil_ap, mDrop_ap, kDrop_ap, mRet_ap, mRetN_ap, mIfS_ap, kIf_t, kIf_f, mBreak_ap, mCont_ap, mBad_ap, mAug_ap, kAug_ap, mVar_ap, mC_ap, m1_ap, k1_ap, m2_ap, k2_ap, k2'_ap, ofO_some, mNil_ap, mCons_ap, kC_ap, kC'_ap, mCall_ap, mB_ap, kB_ap, mMeth_ap, kM_ap, kM'_ap, mTest_ap, kBl_ap, mNot_ap, kNot_ap, mAnd_ap, kAnd_t, kAnd_f, mOr_ap, kOr_t, kOr_f, mIfE_ap, kIfE_t, kIfE_f, mAndV_ap, kAndV_t, kAndV_f, mOrV_ap, kOrV_t, kOrV_f, mNotV_ap, kNotV_ap, mTup_ap, kTup_ap, mLst_ap, kLst_ap, mNoPart_ap, mPart_ap, kInt_ap, mSl_ap, kSl1_ap, kSl2_ap, kSl3_ap, mChain_ap, kCh0_ap, kCh1_ap, kCh2_t, kCh2_f, kCh3_ap, mPutD_ap, kP1_ap, kP2_ap, kP3_ap, runDef_ap, fin_nx, fin_rt, fin_exc, mYes_ap, add_ii, iadd_ii, add_ss, sub_ii, mul_ii, mul_si, mod_ii, fdiv_ii, pow_ii, neg_i, ord_ii, ord_ss, eq_ii, ne_ii, eq_ss, ne_ss, is_non, isn_non, int_i, len_s, len_t, min_ii, sl_s, in_c, nin_c, split_s, str1_ss, find4_s, ty_str, ord_c, iR1_ap, itR1_i, iS_ap, itS_s, iT_ap, itT_t, iE_ap, oD_some, len_r, oLen_l, oLen_r, oKey_s, it_ref, itH_r, itH_t, itH_s, oIH_d, oIH_l, oIH_r, tupF_r, oTupF_l, mTupF_ap, kTupF_ap, seq_t, seq_s, seq_r, oSeq_l, mStar_ap, kSt_ap, kSt1_s, kSt2_ap, lst_d, oLst_s, mTupRev_ap, kRev_t, kRev_s, len_st, min_l, oTy_t, oTy_d, isi_i, isi_s, mIdx_ap, kIx_s, kIxs_ap, kIx1_s, iA_ap, itA_t, itA_s, oItem_d, oItem_l, oItem_r, it_tup, oC_some, it_str, keyD_s, keyD_i, app_r, oApp_l, ext_r, oExt_l, ty_ref, oTy_l, isi_ref, oIsi_l, put_ref, oPut_d, oPutK_s, oBls_s, all_r, oAll_l, tup_r, oTup_l, itE_r, oEnum_l, slT_t, addL_r, oCat_l, lenQ_r, oLenQ_d, isiT_t, isiT_i, isiT_s, isiT_n, mInK_ap, kInK_s, mAtK_ap, kAtK_s, kAtK1_s, mPar_ap, kPar_ap, mPutJ_ap, kJ1_ap, kJ2_ap, mRaise_ap, kRaise_1, get1_r, List.map_cons, List.map_nil, List.length_cons, List.length_nil, List.replicate, List.cons_append, List.nil_append, List.set_cons_zero, List.set_cons_succ, List.getElem?_cons_zero, List.getElem?_cons_succ, Nat.reduceSub, Nat.reduceAdd, Nat.reduceLeDiff, Nat.reduceLT,  cond_true, cond_false, if_true, if_false, ite_true, ite_false, Bool.false_eq_true, reduceIte, Nat.zero_add, Option.bind_some, ne_eq, Int.reduceEq, not_false_eq_true, not_true_eq_false, decide_true, decide_false, Bool.not_true, Bool.not_false, *])

def lowF (c k : Int) : Int := (c * 48271 + k * 69621 + 11).fmod 2147483647
def mixF (c k : Int) : Int := ((lowF c k * lowF c k + c * 40692 + k * 7 + 3).fmod 1000003).fmod 1000
theorem fmod_range (a b : Int) (h : 0 < b) : 0 ≤ a.fmod b ∧ a.fmod b < b := ⟨Int.fmod_nonneg_of_pos a h, Int.fmod_lt_of_pos a h⟩
theorem mix_ok (c k : Int) (h : HP) : m_u_law_mix [.int c, .int k] h = .ok (.int (mixF c k)) h := by
  unfold m_u_law_mix b_u_law_mix
  have e1 : cMul c 48271 = true := cMul_r (by omega)
  have e2 : cMul k 69621 = true := cMul_r (by omega)
  have e3 : cMul c 40692 = true := cMul_r (by omega)
  have e4 : cMul k 7 = true := cMul_r (by omega)
  have e5 : cMul (lowF c k) (lowF c k) = true := cMul_r (by
    have := fmod_range (c * 48271 + k * 69621 + 11) 2147483647 (by omega)
    unfold lowF; omega)
  unfold lowF at e5
  walk_at "pm"
  rfl

/-! the draws -/
/-- the draws' dict at i, its row at j -/
structure St (o : Int) (h : HP) (i j : Nat) (row : List Int) (n : Nat) : Prop where
  d : h[i]? = some (.dic [(.inr "row", .ref j), (.inr "at", .int n), (.inr "seed", .int row.length), (.inr "odd", .int o)])
  r : h[j]? = some (.lst (row.map D.int))
  z : row.length ≤ 1000
/-- all but i is as it was -/
structure Fr (i : Nat) (h h' : HP) : Prop where
  len : h.length ≤ h'.length
  at' : ∀ (k : Nat) (o : Ob), k ≠ i → h[k]? = some o → h'[k]? = some o
theorem Fr.refl (i : Nat) (h : HP) : Fr i h h := ⟨Nat.le_refl _, fun _ _ _ e => e⟩
theorem Fr.trans {i : Nat} {a b c : HP} (x : Fr i a b) (y : Fr i b c) : Fr i a c := ⟨Nat.le_trans x.len y.len, fun k o n e => y.at' k o n (x.at' k o n e)⟩
theorem Fr.app (i : Nat) (h l : HP) : Fr i h (h ++ l) := ⟨by simp, fun k o _ e => by
  have hk : k < h.length := (List.getElem?_eq_some_iff.mp e).1
  rw [List.getElem?_append_left hk]; exact e⟩
theorem Fr.set (i : Nat) (h : HP) (o : Ob) : Fr i h (h.set i o) := ⟨by simp, fun k o' n e => by rw [List.getElem?_set_ne (Ne.symm n)]; exact e⟩
theorem get_lt {α : Type} {l : List α} {i : Nat} {x : α} (e : l[i]? = some x) : i < l.length := (List.getElem?_eq_some_iff.mp e).1
theorem St.app {o : Int} {h : HP} {i j : Nat} {row : List Int} {n : Nat} (s : St o h i j row n) (l : HP) : St o (h ++ l) i j row n :=
  ⟨by rw [List.getElem?_append_left (get_lt s.d)]; exact s.d, by rw [List.getElem?_append_left (get_lt s.r)]; exact s.r, s.z⟩
theorem St.ne {o : Int} {h : HP} {i j : Nat} {row : List Int} {n : Nat} (s : St o h i j row n) : j ≠ i := fun e => by
  have := s.r; rw [e, s.d] at this; cases this
def pkF (row : List Int) (n : Nat) : Int := if n < row.length then row.getD n 0 else mixF row.length n
theorem pick_ok {o : Int} {h : HP} {i j : Nat} {row : List Int} {n : Nat} (s : St o h i j row n) {m : Int} (hm : m ≠ 0) :
    ∃ h', m_u_law_pick [.ref i, .int m] h = .ok (.int ((pkF row n).fmod m)) h' ∧ St o h' i j row (n + 1) ∧ Fr i h h' ∧ h'.length = h.length := by
  obtain ⟨sd, sr, sz⟩ := s
  have hij : j ≠ i := St.ne ⟨sd, sr, sz⟩
  have g1 : getK [((.inr "row" : Key), D.ref j), (.inr "at", .int n), (.inr "seed", .int row.length), (.inr "odd", .int o)] (.inr "at") = some (.int n) := rfl
  have k1 : keyD (.str "at") = some (.inr "at") := rfl
  have k2 : keyD (.str "seed") = some (.inr "seed") := rfl
  have k3 : keyD (.str "row") = some (.inr "row") := rfl
  have e1 : setK [((.inr "row" : Key), D.ref j), (.inr "at", .int n), (.inr "seed", .int row.length), (.inr "odd", .int o)] (.inr "at") (.int (n + 1)) = [(.inr "row", .ref j), (.inr "at", .int (n + 1)), (.inr "seed", .int row.length), (.inr "odd", .int o)] := rfl
  have s2 : (h.set i (.dic [((.inr "row" : Key), D.ref j), (.inr "at", .int (n + 1)), (.inr "seed", .int row.length), (.inr "odd", .int o)]))[i]? = some (.dic [(.inr "row", .ref j), (.inr "at", .int (n + 1)), (.inr "seed", .int row.length), (.inr "odd", .int o)]) := List.getElem?_set_self (get_lt sd)
  have r2 : (h.set i (.dic [((.inr "row" : Key), D.ref j), (.inr "at", .int (n + 1)), (.inr "seed", .int row.length), (.inr "odd", .int o)]))[j]? = some (.lst (row.map D.int)) := by rw [List.getElem?_set_ne (Ne.symm hij)]; exact sr
  have g2 : getK [((.inr "row" : Key), D.ref j), (.inr "at", .int (n + 1)), (.inr "seed", .int row.length), (.inr "odd", .int o)] (.inr "seed") = some (.int row.length) := rfl
  have g3 : getK [((.inr "row" : Key), D.ref j), (.inr "at", .int (n + 1)), (.inr "seed", .int row.length), (.inr "odd", .int o)] (.inr "row") = some (.ref j) := rfl
  refine ⟨h.set i (.dic [((.inr "row" : Key), D.ref j), (.inr "at", .int (n + 1)), (.inr "seed", .int row.length), (.inr "odd", .int o)]), ?_, ⟨s2, r2, sz⟩, Fr.set _ _ _, by simp⟩
  unfold m_u_law_pick b_u_law_pick
  have mx := mix_ok row.length n
  have hl : (row.map D.int).length = row.length := by simp
  by_cases c : n < row.length
  · have c' : ((n : Int) < (row.length : Int)) = True := by simp; omega
    have ga : atI (row.map D.int) (n : Int) = some (.int (row.getD n 0)) := by
      refine atI_nat ?_
      rw [List.getElem?_map, List.getElem?_eq_getElem c, List.getD_eq_getElem?_getD, List.getElem?_eq_getElem c]; rfl
    walk_at "pm"
    unfold pkF; rw [if_pos c]
  · have c' : ((n : Int) < (row.length : Int)) = False := by simp; omega
    walk_at "pm"
    unfold pkF; rw [if_neg c]
end K13
end
section
set_option Elab.async false
set_option linter.all false
set_option maxRecDepth 100000
set_option maxHeartbeats 1000000
namespace K13
open PySem L2 PM
local macro_rules | `(tactic| walk_at "pm") => `(tactic| simp only [bind_ok, toS_ok, seq_nx, seq_rt, seq_bk, seq_ct, seq_exc, bind_exc, toS_exc, mSeq_ap, mNext_ap, mSet_ap, kSet_ap, mAsg_ap, kAsg_ap, ofS_some, gN_ap, gTup_ap, gCons_ap, gNil_ap, mDrop_ap, kDrop_ap, mRet_ap, mRetN_ap, mIfS_ap, kIf_t, kIf_f, mBreak_ap, mCont_ap, mBad_ap, mAug_ap, kAug_ap, mVar_ap, mC_ap, m1_ap, k1_ap, m2_ap, k2_ap, k2'_ap, ofO_some, mNil_ap, mCons_ap, kC_ap, kC'_ap, mCall_ap, mB_ap, kB_ap, mMeth_ap, kM_ap, kM'_ap, mTest_ap, kBl_ap, mNot_ap, kNot_ap, mAnd_ap, kAnd_t, kAnd_f, mOr_ap, kOr_t, kOr_f, mIfE_ap, kIfE_t, kIfE_f, mAndV_ap, kAndV_t, kAndV_f, mOrV_ap, kOrV_t, kOrV_f, mNotV_ap, kNotV_ap, mTup_ap, kTup_ap, mLst_ap, kLst_ap, mNoPart_ap, mPart_ap, kInt_ap, mSl_ap, kSl1_ap, kSl2_ap, kSl3_ap, mChain_ap, kCh0_ap, kCh1_ap, kCh2_t, kCh2_f, kCh3_ap, mPutD_ap, kP1_ap, kP2_ap, kP3_ap, runDef_ap, fin_nx, fin_rt, fin_exc, mYes_ap, add_ii, iadd_ii, add_ss, sub_ii, mul_ii, mul_si, mod_ii, fdiv_ii, pow_ii, neg_i, ord_ii, ord_ss, eq_ii, ne_ii, eq_ss, ne_ss, is_non, isn_non, int_i, len_s, len_t, min_ii, sl_s, in_c, nin_c, split_s, str1_ss, find4_s, ty_str, ord_c, iR1_ap, itR1_i, iS_ap, itS_s, iT_ap, itT_t, iE_ap, oD_some, len_r, oLen_l, oLen_r, oKey_s, it_ref, itH_r, itH_t, itH_s, oIH_d, oIH_l, oIH_r, tupF_r, oTupF_l, mTupF_ap, kTupF_ap, seq_t, seq_s, seq_r, oSeq_l, mStar_ap, kSt_ap, kSt1_s, kSt2_ap, lst_d, oLst_s, mTupRev_ap, kRev_t, kRev_s, len_st, min_l, oTy_t, oTy_d, isi_i, isi_s, mIdx_ap, kIx_s, kIxs_ap, kIx1_s, iA_ap, itA_t, itA_s, oItem_d, oItem_l, oItem_r, it_tup, oC_some, it_str, keyD_s, keyD_i, app_r, oApp_l, ext_r, oExt_l, ty_ref, oTy_l, isi_ref, oIsi_l, put_ref, oPut_d, oPutK_s, oBls_s, all_r, oAll_l, tup_r, oTup_l, itE_r, oEnum_l, slT_t, addL_r, oCat_l, lenQ_r, oLenQ_d, isiT_t, isiT_i, isiT_s, isiT_n, mInK_ap, kInK_s, mAtK_ap, kAtK_s, kAtK1_s, mPar_ap, kPar_ap, mPutJ_ap, kJ1_ap, kJ2_ap, mRaise_ap, kRaise_1, get1_r, List.map_cons, List.map_nil, List.length_cons, List.length_nil, List.replicate, List.cons_append, List.nil_append, List.set_cons_zero, List.set_cons_succ, List.getElem?_cons_zero, List.getElem?_cons_succ, Nat.reduceSub, Nat.reduceAdd, Nat.reduceLeDiff, Nat.reduceLT,  cond_true, cond_false, if_true, if_false, ite_true, ite_false, Bool.false_eq_true, reduceIte, Nat.zero_add, Option.bind_some, ne_eq, Int.reduceEq, not_false_eq_true, not_true_eq_false, decide_true, decide_false, Bool.not_true, Bool.not_false, *])

theorem loop_inv {g : MG} {p : MS} {Inv : SD → HP → Prop} : ∀ {ds : List D} {s : SD} {h : HP}, (∀ d ∈ ds, ∀ s h, Inv s h → ∃ s1 s2 h2, g d s = some s1 ∧ p s1 h = .nx s2 h2 ∧ Inv s2 h2) → Inv s h →
    ∃ s2 h2, mLoop (fun _ => True) g p ds s h = .nx s2 h2 ∧ Inv s2 h2
  | [], s, h, _, i => ⟨s, h, mLoop_nil trivial, i⟩
  | d :: ds, s, h, st, i => by
    obtain ⟨s1, s2, h2, e1, e2, i2⟩ := st d List.mem_cons_self s h i
    obtain ⟨s3, h3, e3, i3⟩ := loop_inv (fun d hd => st d (List.mem_cons_of_mem _ hd)) i2
    exact ⟨s3, h3, by rw [mLoop_nx trivial e1 (.inl e2), e3], i3⟩
theorem loop_idx {g : MG} {p : MS} {Inv : Nat → SD → HP → Prop} : ∀ {n k : Nat} {s : SD} {h : HP}, (∀ m, k ≤ m → m < k + n → ∀ s h, Inv m s h → ∃ s1 s2 h2, g (.int (0 + (m : Int))) s = some s1 ∧ p s1 h = .nx s2 h2 ∧ Inv (m + 1) s2 h2) → Inv k s h →
    ∃ s2 h2, mLoop (fun _ => True) g p ((List.range' k n).map fun (i : Nat) => .int (0 + (i : Int))) s h = .nx s2 h2 ∧ Inv (k + n) s2 h2
  | 0, k, s, h, _, i => ⟨s, h, mLoop_nil trivial, i⟩
  | n + 1, k, s, h, st, i => by
    obtain ⟨s1, s2, h2, e1, e2, i2⟩ := st k (Nat.le_refl _) (by omega) s h i
    obtain ⟨s3, h3, e3, i3⟩ := loop_idx (n := n) (k := k + 1) (fun m h1 h2 => st m (by omega) (by omega)) i2
    refine ⟨s3, h3, ?_, by rw [show k + (n + 1) = k + 1 + n by omega]; exact i3⟩
    rw [List.range'_succ, List.map_cons, mLoop_nx trivial e1 (.inl e2), e3]
/-! the stream -/
structure SI (X : List D) (k : D) (s : SD) (h : HP) : Prop where
  ex : ∃ (r : Int) (x5 : Option D) (row : List Int), s = [some (.ref 0), some (.int 300), some (.ref 1), some k, some (.int r), x5] ∧ h = [.rdl X, .lst (row.map D.int)] ∧ row.length ≤ 300
theorem row_app {row : List Int} {x : Int} : (row.map D.int ++ [D.int x]) = (row ++ [x]).map D.int := by simp
theorem st2 {X : List D} {d : D} {k : Int} {s : SD} {h : HP} (i : SI X (.int k) s h) : ∃ s1 s2 h2, gN 5 d s = some s1 ∧ L_u_law_stream_2 s1 h = .nx s2 h2 ∧ SI X (.int k) s2 h2 := by
  obtain ⟨r, x5, row, rfl, rfl, hl⟩ := i
  refine ⟨[some (.ref 0), some (.int 300), some (.ref 1), some (.int k), some (.int r), some d], ?_⟩
  have ln : ((row.map D.int).length : Int) = (row.length : Int) := by simp
  have ll : (row.map D.int).length < 1000000 := by simp; omega
  have fd : ∀ h, fdivG (.int r) (.int 1000) h = some (.int (r.fdiv 1000), h) := fun h => fdiv_ii ⟨by omega, by decide⟩
  have ra := @row_app row (r.fmod 1000)
  by_cases c1 : (0 : Int) < r
  · by_cases c2 : (row.length : Int) < 300
    · refine ⟨_, _, rfl, ?_, ⟨r.fdiv 1000, some d, row ++ [r.fmod 1000], rfl, rfl, by simp; omega⟩⟩
      unfold L_u_law_stream_2
      have c1' := eq_true c1
      have c2' := eq_true c2
      clear c1 c2
      walk_at "pm"
    · refine ⟨_, _, rfl, ?_, ⟨r, some d, row, rfl, rfl, hl⟩⟩
      unfold L_u_law_stream_2
      have c1' := eq_true c1
      have c2' := eq_false c2
      clear c1 c2 ra
      walk_at "pm"
  · refine ⟨_, _, rfl, ?_, ⟨r, some d, row, rfl, rfl, hl⟩⟩
    unfold L_u_law_stream_2
    have c1' := eq_false c1
    clear c1 ra
    walk_at "pm"
theorem st3 {X : List D} {d k : Int} {s : SD} {h : HP} (i : SI X (.int k) s h) : ∃ s1 s2 h2, gN 5 (.int d) s = some s1 ∧ L_u_law_stream_3 s1 h = .nx s2 h2 ∧ SI X (.int k) s2 h2 := by
  obtain ⟨r, x5, row, rfl, rfl, hl⟩ := i
  refine ⟨[some (.ref 0), some (.int 300), some (.ref 1), some (.int k), some (.int r), some (.int d)], ?_⟩
  have ln : ((row.map D.int).length : Int) = (row.length : Int) := by simp
  have ll : (row.map D.int).length < 1000000 := by simp; omega
  have mx := mix_ok r (64 * d + k)
  have cm : cMul 64 d = true := cMul_l (by omega)
  have ra := @row_app row (mixF r (64 * d + k))
  by_cases c2 : (row.length : Int) < 300
  · refine ⟨_, _, rfl, ?_, ⟨r, some (.int d), row ++ [mixF r (64 * d + k)], rfl, rfl, by simp; omega⟩⟩
    unfold L_u_law_stream_3
    have c2' := eq_true c2
    clear c2
    walk_at "pm"
  · refine ⟨_, _, rfl, ?_, ⟨r, some (.int d), row, rfl, rfl, hl⟩⟩
    unfold L_u_law_stream_3
    have c2' := eq_false c2
    clear c2 ra
    walk_at "pm"
structure SJ (X : List D) (s : SD) (h : HP) : Prop where
  ex : ∃ (x3 x4 x5 : Option D) (row : List Int), s = [some (.ref 0), some (.int 300), some (.ref 1), x3, x4, x5] ∧ h = [.rdl X, .lst (row.map D.int)] ∧ row.length ≤ 300
theorem st1 {ns : List Int} {k : Nat} {s : SD} {h : HP} (hk : k < ns.length) (i : SJ (ns.map D.int) s h) : ∃ s1 s2 h2, gN 3 (.int (0 + (k : Int))) s = some s1 ∧ L_u_law_stream_1 s1 h = .nx s2 h2 ∧ SJ (ns.map D.int) s2 h2 := by
  obtain ⟨x3, x4, x5, row, rfl, rfl, hl⟩ := i
  refine ⟨[some (.ref 0), some (.int 300), some (.ref 1), some (.int (0 + (k : Int))), x4, x5], ?_⟩
  have ha : atI (ns.map D.int) (0 + (k : Int)) = some (.int (ns.getD k 0)) := by
    rw [Int.zero_add]
    refine atI_nat ?_
    rw [List.getElem?_map, List.getElem?_eq_getElem hk, List.getD_eq_getElem?_getD, List.getElem?_eq_getElem hk]; rfl
  generalize ns.getD k 0 = r at ha
  have pw : ∀ h, powG (.int 10) (.int 18) h = some (.int 1000000000000000000, h) := fun h => pow_ii ⟨by omega, by omega, by decide⟩
  have r6 : ∀ h, itR1 [.int 60] h = .ok ((List.range' 0 60).map fun (i : Nat) => .int (0 + (i : Int)), fun _ => True) h := fun h => by rw [itR1_i ⟨by omega, by omega⟩, List.range_eq_range']; rfl
  have r3 : ∀ h, itR1 [.int 3] h = .ok ((List.range' 0 3).map fun (i : Nat) => .int (0 + (i : Int)), fun _ => True) h := fun h => by rw [itR1_i ⟨by omega, by omega⟩, List.range_eq_range']; rfl
  have si : SI (ns.map D.int) (.int (0 + (k : Int))) [some (.ref 0), some (.int 300), some (.ref 1), some (.int (0 + (k : Int))), some (.int r), x5] [.rdl (ns.map D.int), .lst (row.map D.int)] := ⟨r, x5, row, rfl, rfl, hl⟩
  by_cases c : (1000000000000000000 : Int) ≤ r
  · obtain ⟨s2, h2, e, i2⟩ := loop_inv (g := gN 5) (p := L_u_law_stream_2) (Inv := SI (ns.map D.int) (.int (0 + (k : Int)))) (ds := (List.range' 0 60).map fun (i : Nat) => .int (0 + (i : Int))) (fun d hd s h i => st2 i) si
    obtain ⟨r', x5', row', rfl, rfl, hl'⟩ := i2
    refine ⟨_, _, rfl, ?_, ⟨some (.int (0 + (k : Int))), some (.int r'), x5', row', rfl, rfl, hl'⟩⟩
    have mf : mFor (iR1 (mCons (mC (.int 60)) mNil)) (gN 5) L_u_law_stream_2 [some (.ref 0), some (.int 300), some (.ref 1), some (.int (0 + (k : Int))), some (.int r), x5] [.rdl (ns.map D.int), .lst (row.map D.int)] = .nx [some (.ref 0), some (.int 300), some (.ref 1), some (.int (0 + (k : Int))), some (.int r'), x5'] [.rdl (ns.map D.int), .lst (row'.map D.int)] := by
      rw [mFor_ok (xs := (List.range' 0 60).map fun (i : Nat) => .int (0 + (i : Int))) (G := fun _ => True) (h' := [.rdl (ns.map D.int), .lst (row.map D.int)]) (by clear e; walk_at "pm")]
      exact e
    unfold L_u_law_stream_1
    have c' := eq_true c
    clear c e si r6 r3
    walk_at "pm"
  · obtain ⟨s2, h2, e, i2⟩ := loop_inv (g := gN 5) (p := L_u_law_stream_3) (Inv := SI (ns.map D.int) (.int (0 + (k : Int)))) (ds := (List.range' 0 3).map fun (i : Nat) => .int (0 + (i : Int))) (fun d hd s h i => by
      obtain ⟨m, _, rfl⟩ := List.mem_map.mp hd
      exact st3 i) si
    obtain ⟨r', x5', row', rfl, rfl, hl'⟩ := i2
    refine ⟨_, _, rfl, ?_, ⟨some (.int (0 + (k : Int))), some (.int r'), x5', row', rfl, rfl, hl'⟩⟩
    have mf : mFor (iR1 (mCons (mC (.int 3)) mNil)) (gN 5) L_u_law_stream_3 [some (.ref 0), some (.int 300), some (.ref 1), some (.int (0 + (k : Int))), some (.int r), x5] [.rdl (ns.map D.int), .lst (row.map D.int)] = .nx [some (.ref 0), some (.int 300), some (.ref 1), some (.int (0 + (k : Int))), some (.int r'), x5'] [.rdl (ns.map D.int), .lst (row'.map D.int)] := by
      rw [mFor_ok (xs := (List.range' 0 3).map fun (i : Nat) => .int (0 + (i : Int))) (G := fun _ => True) (h' := [.rdl (ns.map D.int), .lst (row.map D.int)]) (by clear e; walk_at "pm")]
      exact e
    unfold L_u_law_stream_1
    have c' := eq_false c
    clear c e si r6 r3
    walk_at "pm"
theorem stream_ok {ns : List Int} (hn : ns.length ≤ 63) : ∃ (h : HP) (row : List Int), m_u_law_stream [.ref 0, .int 300] [.rdl (ns.map D.int)] = .ok (.ref 2) h ∧ h = [.rdl (ns.map D.int), .lst (row.map D.int), .dic [(.inr "row", .ref 1), (.inr "at", .int 0), (.inr "seed", .int row.length)]] ∧ row.length ≤ 300 := by
  obtain ⟨s2, h2, e, i2⟩ := loop_idx (g := gN 3) (p := L_u_law_stream_1) (Inv := fun _ => SJ (ns.map D.int)) (n := ns.length) (k := 0) (fun m _ hm s h i => st1 (by omega) i) (s := [some (.ref 0), some (.int 300), some (.ref 1), none, none, none]) (h := [.rdl (ns.map D.int), .lst ([].map D.int)]) ⟨none, none, none, [], rfl, rfl, by simp⟩
  obtain ⟨x3, x4, x5, row, rfl, rfl, hl⟩ := i2
  have ln : ((row.map D.int).length : Int) = (row.length : Int) := by simp
  have ln2 : ((ns.map D.int).length : Int) = (ns.length : Int) := by simp
  have c1 : ((63 : Int) < (ns.length : Int)) = False := eq_false (by omega)
  have rr : ∀ h, itR1 [.int (ns.length : Int)] h = .ok ((List.range' 0 ns.length).map fun (i : Nat) => .int (0 + (i : Int)), fun _ => True) h := fun h => by
    rw [itR1_i ⟨by omega, by omega⟩, List.range_eq_range', Int.toNat_natCast]
  refine ⟨[.rdl (ns.map D.int), .lst (row.map D.int), .dic [(.inr "row", .ref 1), (.inr "at", .int 0), (.inr "seed", .int row.length)]], row, ?_, rfl, hl⟩
  have mf : mFor (iR1 (mCons (mB minL (mCons (mB lenG (mCons (mVar 0) mNil)) (mCons (mC (.int 63)) mNil))) mNil)) (gN 3) L_u_law_stream_1 [some (.ref 0), some (.int 300), some (.ref 1), none, none, none] [.rdl (ns.map D.int), .lst []] = .nx [some (.ref 0), some (.int 300), some (.ref 1), x3, x4, x5] [.rdl (ns.map D.int), .lst (row.map D.int)] := by
    rw [mFor_ok (xs := (List.range' 0 ns.length).map fun (i : Nat) => .int (0 + (i : Int))) (G := fun _ => True) (h' := [.rdl (ns.map D.int), .lst []]) (by clear e; walk_at "pm")]
    exact e
  have md : mDisp [(mC (.str "row"), mVar 2), (mC (.str "at"), mC (.int 0)), (mC (.str "seed"), mB lenG (mCons (mVar 2) mNil))] [some (.ref 0), some (.int 300), some (.ref 1), x3, x4, x5] [.rdl (ns.map D.int), .lst (row.map D.int)] = .ok (.ref 2) [.rdl (ns.map D.int), .lst (row.map D.int), .dic [(.inr "row", .ref 1), (.inr "at", .int 0), (.inr "seed", .int row.length)]] := by
    have : (row.length : Int) = ((row.map D.int).length : Int) := by simp
    rw [this]
    rfl
  unfold m_u_law_stream b_u_law_stream
  clear e rr c1
  walk_at "pm"
end K13
end
section
set_option Elab.async false
set_option linter.all false
set_option maxRecDepth 100000
set_option maxHeartbeats 1000000
namespace K13
open PySem L2 PM
local macro_rules | `(tactic| walk_at "pm") => `(tactic| simp only [bind_ok, toS_ok, seq_nx, seq_rt, seq_bk, seq_ct, seq_exc, bind_exc, toS_exc, mSeq_ap, mNext_ap, mSet_ap, kSet_ap, mAsg_ap, kAsg_ap, ofS_some, gN_ap, gTup_ap, gCons_ap, gNil_ap, mDrop_ap, kDrop_ap, mRet_ap, mRetN_ap, mIfS_ap, kIf_t, kIf_f, mBreak_ap, mCont_ap, mBad_ap, mAug_ap, kAug_ap, mVar_ap, mC_ap, m1_ap, k1_ap, m2_ap, k2_ap, k2'_ap, ofO_some, mNil_ap, mCons_ap, kC_ap, kC'_ap, mCall_ap, mB_ap, kB_ap, mMeth_ap, kM_ap, kM'_ap, mTest_ap, kBl_ap, mNot_ap, kNot_ap, mAnd_ap, kAnd_t, kAnd_f, mOr_ap, kOr_t, kOr_f, mIfE_ap, kIfE_t, kIfE_f, mAndV_ap, kAndV_t, kAndV_f, mOrV_ap, kOrV_t, kOrV_f, mNotV_ap, kNotV_ap, mTup_ap, kTup_ap, mLst_ap, kLst_ap, mNoPart_ap, mPart_ap, kInt_ap, mSl_ap, kSl1_ap, kSl2_ap, kSl3_ap, mChain_ap, kCh0_ap, kCh1_ap, kCh2_t, kCh2_f, kCh3_ap, mPutD_ap, kP1_ap, kP2_ap, kP3_ap, runDef_ap, fin_nx, fin_rt, fin_exc, mYes_ap, add_ii, iadd_ii, add_ss, sub_ii, mul_ii, mul_si, mod_ii, fdiv_ii, pow_ii, neg_i, ord_ii, ord_ss, eq_ii, ne_ii, eq_ss, ne_ss, is_non, isn_non, int_i, len_s, len_t, min_ii, sl_s, in_c, nin_c, split_s, str1_ss, find4_s, ty_str, ord_c, iR1_ap, itR1_i, iS_ap, itS_s, iT_ap, itT_t, iE_ap, oD_some, len_r, oLen_l, oLen_r, oKey_s, it_ref, itH_r, itH_t, itH_s, oIH_d, oIH_l, oIH_r, tupF_r, oTupF_l, mTupF_ap, kTupF_ap, seq_t, seq_s, seq_r, oSeq_l, mStar_ap, kSt_ap, kSt1_s, kSt2_ap, lst_d, oLst_s, mTupRev_ap, kRev_t, kRev_s, len_st, min_l, oTy_t, oTy_d, isi_i, isi_s, mIdx_ap, kIx_s, kIxs_ap, kIx1_s, iA_ap, itA_t, itA_s, oItem_d, oItem_l, oItem_r, it_tup, oC_some, it_str, keyD_s, keyD_i, app_r, oApp_l, ext_r, oExt_l, ty_ref, oTy_l, isi_ref, oIsi_l, put_ref, oPut_d, oPutK_s, oBls_s, all_r, oAll_l, tup_r, oTup_l, itE_r, oEnum_l, slT_t, addL_r, oCat_l, lenQ_r, oLenQ_d, isiT_t, isiT_i, isiT_s, isiT_n, mInK_ap, kInK_s, mAtK_ap, kAtK_s, kAtK1_s, mPar_ap, kPar_ap, mPutJ_ap, kJ1_ap, kJ2_ap, mRaise_ap, kRaise_1, get1_r, List.map_cons, List.map_nil, List.length_cons, List.length_nil, List.replicate, List.cons_append, List.nil_append, List.set_cons_zero, List.set_cons_succ, List.getElem?_cons_zero, List.getElem?_cons_succ, Nat.reduceSub, Nat.reduceAdd, Nat.reduceLeDiff, Nat.reduceLT,  cond_true, cond_false, if_true, if_false, ite_true, ite_false, Bool.false_eq_true, reduceIte, Nat.zero_add, Option.bind_some, ne_eq, Int.reduceEq, not_false_eq_true, not_true_eq_false, decide_true, decide_false, Bool.not_true, Bool.not_false, *])

/-! heaps that only grow -/
structure X0 (h h' : HP) : Prop where
  len : h.length ≤ h'.length
  at' : ∀ (k : Nat) (o : Ob), h[k]? = some o → h'[k]? = some o
theorem X0.refl (h : HP) : X0 h h := ⟨Nat.le_refl _, fun _ _ e => e⟩
theorem X0.trans {a b c : HP} (x : X0 a b) (y : X0 b c) : X0 a c := ⟨Nat.le_trans x.len y.len, fun k o e => y.at' k o (x.at' k o e)⟩
theorem X0.app (h l : HP) : X0 h (h ++ l) := ⟨by simp, fun k o e => by rw [List.getElem?_append_left (get_lt e)]; exact e⟩
theorem last_get {h : HP} {o : Ob} : (h ++ [o])[h.length]? = some o := by rw [List.getElem?_append_right (Nat.le_refl _)]; simp
theorem X0.set {h0 h : HP} (x : X0 h0 h) {n : Nat} (hn : h0.length ≤ n) (o : Ob) : X0 h0 (h.set n o) := ⟨by rw [List.length_set]; exact x.len, fun k o' e => by
  rw [List.getElem?_set_ne (by have := get_lt e; omega)]; exact x.at' k o' e⟩
/-- the list of a comprehension at the end of h0 -/
def At (h0 : HP) (acc : List D) (h : HP) : Prop := X0 h0 h ∧ h[h0.length]? = some (.lst acc)
theorem At.new (h0 : HP) : At h0 [] (h0 ++ [.lst []]) := ⟨X0.app _ _, last_get⟩
theorem At.mono {h0 : HP} {acc : List D} {h h' : HP} (a : At h0 acc h) (x : X0 h h') : At h0 acc h' := ⟨a.1.trans x, x.at' _ _ a.2⟩
theorem cl_map {h0 : HP} {G : HP → Prop} {tg : Tg} {c : MT} {el : ME} {s : SD} {f : D → D} {p : D → Bool} (hG : ∀ h, X0 h0 h → G h) :
    ∀ {ds acc : List D} {h : HP}, (∀ d ∈ ds, ∀ h, X0 h0 h → ∃ s1 h1, tg.put d s = some s1 ∧ c s1 h = .ok (p d) h1 ∧ X0 h h1 ∧ (p d = true → ∃ h2, el s1 h1 = .ok (f d) h2 ∧ X0 h1 h2)) → At h0 acc h → acc.length + ds.length ≤ 1000000 →
    ∃ h', cLoop G tg c el (putL h0.length) h0.length ds s h = .ok (.ref h0.length) h' ∧ At h0 (acc ++ (ds.filter p).map f) h'
  | [], acc, h, _, a, _ => ⟨h, by unfold cLoop; rw [if_pos (hG h a.1)], by simpa using a⟩
  | d :: ds, acc, h, st, a, hl => by
    obtain ⟨s1, h1, e1, e2, x1, q⟩ := st d List.mem_cons_self h a.1
    rw [List.length_cons] at hl
    unfold cLoop
    rw [if_pos (hG h a.1), e1]
    dsimp only
    rw [e2]
    by_cases hp : p d = true
    · obtain ⟨h2, e3, x2⟩ := q hp
      have a2 := (a.mono x1).mono x2
      rw [hp]
      dsimp only
      rw [e3]
      dsimp only
      have e4 : putL h0.length (f d) h2 = some (h2.set h0.length (.lst (acc ++ [f d]))) := by
        unfold putL; rw [a2.2]; dsimp only; rw [if_pos (by omega)]
      rw [e4]
      dsimp only
      have a3 : At h0 (acc ++ [f d]) (h2.set h0.length (.lst (acc ++ [f d]))) := ⟨a2.1.set (Nat.le_refl _) _, List.getElem?_set_self (get_lt a2.2)⟩
      obtain ⟨h', e5, a5⟩ := cl_map hG (fun d hd => st d (List.mem_cons_of_mem _ hd)) a3 (by simp; omega)
      refine ⟨h', e5, ?_⟩
      rw [List.filter_cons_of_pos hp, List.map_cons]
      simpa using a5
    · have hp' : p d = false := by simpa using hp
      rw [hp']
      dsimp only
      obtain ⟨h', e5, a5⟩ := cl_map hG (fun d hd => st d (List.mem_cons_of_mem _ hd)) (a.mono x1) (by omega)
      exact ⟨h', e5, by rw [List.filter_cons_of_neg hp]; exact a5⟩
/-- without a condition -/
theorem cl_all {h0 : HP} {G : HP → Prop} {tg : Tg} {el : ME} {s : SD} {f : D → D} (hG : ∀ h, X0 h0 h → G h) {ds : List D}
    (st : ∀ d ∈ ds, ∀ h, X0 h0 h → ∃ s1 h2, tg.put d s = some s1 ∧ el s1 h = .ok (f d) h2 ∧ X0 h h2) (hl : ds.length ≤ 1000000) :
    ∃ h', cLoop G tg mYes el (putL h0.length) h0.length ds s (h0 ++ [.lst []]) = .ok (.ref h0.length) h' ∧ At h0 (ds.map f) h' := by
  obtain ⟨h', e, a⟩ := cl_map (p := fun _ => true) (c := mYes) hG (fun d hd h x => by
    obtain ⟨s1, h2, e1, e2, x2⟩ := st d hd h x
    exact ⟨s1, h, e1, rfl, X0.refl _, fun _ => ⟨h2, e2, x2⟩⟩) (At.new h0) (by simpa using hl)
  rw [List.nil_append, show ds.filter (fun _ => true) = ds from List.filter_eq_self.mpr fun _ _ => rfl] at a
  exact ⟨h', e, a⟩
/-- what can be walked, now and later -/
def It (R : D) (h : HP) (xs : List D) : Prop := ∃ G : HP → Prop, ∀ h', X0 h h' → itA R h' = .ok (xs, G) h' ∧ G h'
theorem It.mono {R : D} {h h' : HP} {xs : List D} (i : It R h xs) (x : X0 h h') : It R h' xs := let ⟨G, g⟩ := i; ⟨G, fun h2 y => g h2 (x.trans y)⟩
theorem It.tup {h : HP} {xs : List D} : It (.tup xs) h xs := ⟨fun _ => True, fun _ _ => ⟨rfl, trivial⟩⟩
theorem It.stp {h : HP} {xs : List D} : It (.stp xs) h xs := ⟨fun _ => True, fun _ _ => ⟨rfl, trivial⟩⟩
theorem It.lst {h : HP} {i : Nat} {xs : List D} (e : h[i]? = some (.lst xs)) : It (.ref i) h xs := ⟨fun h => h[i]? = some (.lst xs), fun h' x => by
  have e2 := x.at' _ _ e
  refine ⟨?_, e2⟩
  unfold itA
  dsimp only
  rw [e2]⟩
/-- a comprehension over what can be walked -/
theorem lc_all {it : MI} {R : D} {tg : Tg} {el : ME} {s : SD} {f : D → D} {xs : List D} {h : HP} (hi : It R h xs) (e : ∀ G, itA R h = .ok (xs, G) h → it s h = .ok (xs, G) h)
    (st : ∀ d ∈ xs, ∀ h', X0 h h' → ∃ s1 h2, tg.put d (wipeD s tg.slots) = some s1 ∧ el s1 h' = .ok (f d) h2 ∧ X0 h' h2) (hl : xs.length ≤ 1000000) :
    ∃ h', mLcG it tg mYes el s h = .ok (.ref h.length) h' ∧ At h (xs.map f) h' := by
  obtain ⟨G, g⟩ := hi
  rw [mLcG_ok (e G (g h (X0.refl _)).1)]
  exact cl_all (fun h' x => (g h' x).2) st hl
theorem lc_some {it : MI} {R : D} {tg : Tg} {c : MT} {el : ME} {s : SD} {f : D → D} {p : D → Bool} {xs : List D} {h : HP} (hi : It R h xs) (e : ∀ G, itA R h = .ok (xs, G) h → it s h = .ok (xs, G) h)
    (st : ∀ d ∈ xs, ∀ h', X0 h h' → ∃ s1 h1, tg.put d (wipeD s tg.slots) = some s1 ∧ c s1 h' = .ok (p d) h1 ∧ X0 h' h1 ∧ (p d = true → ∃ h2, el s1 h1 = .ok (f d) h2 ∧ X0 h1 h2)) (hl : xs.length ≤ 1000000) :
    ∃ h', mLcG it tg c el s h = .ok (.ref h.length) h' ∧ At h ((xs.filter p).map f) h' := by
  obtain ⟨G, g⟩ := hi
  rw [mLcG_ok (e G (g h (X0.refl _)).1)]
  have := cl_map (fun h' x => (g h' x).2) st (At.new h) (by simpa using hl)
  simpa using this
theorem X0.fr {i : Nat} {a b : HP} (x : X0 a b) : Fr i a b := ⟨x.len, fun k o _ e => x.at' k o e⟩
theorem X0.of_fr {n : Nat} {a b c : HP} (x : X0 a b) (y : Fr n b c) (hn : a.length ≤ n) : X0 a c := ⟨Nat.le_trans x.len y.len, fun k o e => y.at' k o (by have := get_lt e; omega) (x.at' k o e)⟩
/-! the draws stand at 2, wherever they are -/
structure Dr (o : Int) (row : List Int) (h : HP) : Prop where
  ex : ∃ n, St o h 2 1 row n
theorem Dr.x0 {o : Int} {row : List Int} {h h' : HP} (a : Dr o row h) (x : X0 h h') : Dr o row h' := by
  obtain ⟨n, s⟩ := a.ex
  exact ⟨n, x.at' _ _ s.d, x.at' _ _ s.r, s.z⟩
theorem Dr.gt {o : Int} {row : List Int} {h : HP} (a : Dr o row h) : 2 < h.length := by
  obtain ⟨n, s⟩ := a.ex
  exact get_lt s.d
theorem Dr.set {o : Int} {row : List Int} {h : HP} (a : Dr o row h) {n : Nat} (hn : 2 < n) (ob : Ob) : Dr o row (h.set n ob) := by
  obtain ⟨m, s⟩ := a.ex
  exact ⟨m, by rw [List.getElem?_set_ne (by omega)]; exact s.d, by rw [List.getElem?_set_ne (by omega)]; exact s.r, s.z⟩
theorem pickD {o : Int} {row : List Int} {h : HP} (a : Dr o row h) {m : Int} (hm : 0 < m) : ∃ j h', m_u_law_pick [.ref 2, .int m] h = .ok (.int j) h' ∧ (0 ≤ j ∧ j < m) ∧ Dr o row h' ∧ Fr 2 h h' := by
  obtain ⟨n, s⟩ := a.ex
  obtain ⟨h', e, s', f, _⟩ := pick_ok s (m := m) (by omega)
  exact ⟨_, h', e, fmod_range _ _ hm, ⟨_, s'⟩, f⟩
theorem at_in {xs : List D} {j : Int} (h : 0 ≤ j ∧ j < xs.length) : ∃ x ∈ xs, atI xs j = some x := by
  have hj : j.toNat < xs.length := by omega
  refine ⟨xs[j.toNat], List.getElem_mem hj, ?_⟩
  have q : xs[j.toNat]? = some xs[j.toNat] := List.getElem?_eq_getElem hj
  have := atI_nat q
  rw [Int.toNat_of_nonneg h.1] at this
  exact this
/-! comprehensions that draw -/
theorem cl_dr {o : Int} {row : List Int} {h0 : HP} {tg : Tg} {el : ME} {s : SD} {P : D → D → Prop} (h2 : 2 < h0.length) : ∀ {ds acc : List D} {h : HP},
    (∀ d ∈ ds, ∀ h, Dr o row h → ∃ s1 y h2, tg.put d s = some s1 ∧ el s1 h = .ok y h2 ∧ Dr o row h2 ∧ Fr 2 h h2 ∧ P d y) → Fr 2 h0 h → Dr o row h → h[h0.length]? = some (.lst acc) → acc.length + ds.length ≤ 1000 →
    ∃ ys h', cLoop (fun _ => True) tg mYes el (putL h0.length) h0.length ds s h = .ok (.ref h0.length) h' ∧ Fr 2 h0 h' ∧ Dr o row h' ∧ h'[h0.length]? = some (.lst (acc ++ ys)) ∧ Paired P ds ys
  | [], acc, h, _, f, a, e, _ => ⟨[], h, by unfold cLoop; rw [if_pos trivial], f, a, by rw [List.append_nil]; exact e, .nil⟩
  | d :: ds, acc, h, st, f, a, e, hl => by
    rw [List.length_cons] at hl
    obtain ⟨s1, y, hh, e1, e2, a2, f2, p⟩ := st d List.mem_cons_self h a
    have g2 := f2.at' _ _ (by omega) e
    obtain ⟨ys, h', e3, f3, a3, g3, ps⟩ := cl_dr h2 (ds := ds) (acc := acc ++ [y]) (h := hh.set h0.length (.lst (acc ++ [y]))) (fun d hd => st d (List.mem_cons_of_mem _ hd)) (by
      refine ⟨by rw [List.length_set]; exact Nat.le_trans f.len f2.len, fun k o hk ek => ?_⟩
      rw [List.getElem?_set_ne (by have := get_lt ek; omega)]
      exact f2.at' _ _ hk (f.at' _ _ hk ek)) (a2.set h2 _) (List.getElem?_set_self (get_lt g2)) (by simp; omega)
    refine ⟨y :: ys, h', ?_, f3, a3, by rw [List.append_assoc] at g3; exact g3, .cons p ps⟩
    unfold cLoop
    rw [if_pos trivial, e1]
    dsimp only
    rw [mYes_ap]
    dsimp only
    rw [e2]
    dsimp only
    have e4 : putL h0.length y hh = some (hh.set h0.length (.lst (acc ++ [y]))) := by
      unfold putL; rw [g2]; dsimp only; rw [if_pos (by omega)]
    rw [e4]
    exact e3
end K13
end
section
set_option Elab.async false
set_option linter.all false
set_option maxRecDepth 100000
set_option maxHeartbeats 1000000
namespace K13
open PySem L2 PM
local macro_rules | `(tactic| walk_at "pm") => `(tactic| simp (config := { decide := true }) only [bind_ok, toS_ok, seq_nx, seq_rt, seq_bk, seq_ct, seq_exc, bind_exc, toS_exc, mSeq_ap, mNext_ap, mSet_ap, kSet_ap, mAsg_ap, kAsg_ap, ofS_some, gN_ap, gTup_ap, gCons_ap, gNil_ap, mDrop_ap, kDrop_ap, mRet_ap, mRetN_ap, mIfS_ap, kIf_t, kIf_f, mBreak_ap, mCont_ap, mBad_ap, mAug_ap, kAug_ap, mVar_ap, mC_ap, m1_ap, k1_ap, m2_ap, k2_ap, k2'_ap, ofO_some, mNil_ap, mCons_ap, kC_ap, kC'_ap, mCall_ap, mB_ap, kB_ap, mMeth_ap, kM_ap, kM'_ap, mTest_ap, kBl_ap, mNot_ap, kNot_ap, mAnd_ap, kAnd_t, kAnd_f, mOr_ap, kOr_t, kOr_f, mIfE_ap, kIfE_t, kIfE_f, mAndV_ap, kAndV_t, kAndV_f, mOrV_ap, kOrV_t, kOrV_f, mNotV_ap, kNotV_ap, mTup_ap, kTup_ap, mLst_ap, kLst_ap, mNoPart_ap, mPart_ap, kInt_ap, mSl_ap, kSl1_ap, kSl2_ap, kSl3_ap, mChain_ap, kCh0_ap, kCh1_ap, kCh2_t, kCh2_f, kCh3_ap, mPutD_ap, kP1_ap, kP2_ap, kP3_ap, runDef_ap, fin_nx, fin_rt, fin_exc, mYes_ap, add_ii, iadd_ii, add_ss, sub_ii, mul_ii, mul_si, mod_ii, fdiv_ii, pow_ii, neg_i, ord_ii, ord_ss, eq_ii, ne_ii, eq_ss, ne_ss, is_non, isn_non, int_i, len_s, len_t, min_ii, sl_s, in_c, nin_c, split_s, str1_ss, find4_s, ty_str, ord_c, iR1_ap, itR1_i, iS_ap, itS_s, iT_ap, itT_t, iE_ap, oD_some, len_r, oLen_l, oLen_r, oKey_s, it_ref, itH_r, itH_t, itH_s, oIH_d, oIH_l, oIH_r, tupF_r, oTupF_l, mTupF_ap, kTupF_ap, seq_t, seq_s, seq_r, oSeq_l, mStar_ap, kSt_ap, kSt1_s, kSt2_ap, lst_d, oLst_s, mTupRev_ap, kRev_t, kRev_s, len_st, min_l, oTy_t, oTy_d, isi_i, isi_s, mIdx_ap, kIx_s, kIxs_ap, kIx1_s, iA_ap, itA_t, itA_s, oItem_d, oItem_l, oItem_r, it_tup, oC_some, it_str, keyD_s, keyD_i, app_r, oApp_l, ext_r, oExt_l, ty_ref, oTy_l, isi_ref, oIsi_l, put_ref, oPut_d, oPutK_s, oBls_s, all_r, oAll_l, tup_r, oTup_l, itE_r, oEnum_l, slT_t, addL_r, oCat_l, lenQ_r, oLenQ_d, isiT_t, isiT_i, isiT_s, isiT_n, mInK_ap, kInK_s, mAtK_ap, kAtK_s, kAtK1_s, mPar_ap, kPar_ap, mPutJ_ap, kJ1_ap, kJ2_ap, mRaise_ap, kRaise_1, get1_r, List.map_cons, List.map_nil, List.length_cons, List.length_nil, List.replicate, List.cons_append, List.nil_append, List.set_cons_zero, List.set_cons_succ, List.getElem?_cons_zero, List.getElem?_cons_succ, Nat.reduceSub, Nat.reduceAdd, Nat.reduceLeDiff, Nat.reduceLT,  cond_true, cond_false, if_true, if_false, ite_true, ite_false, Bool.false_eq_true, reduceIte, Nat.zero_add, Option.bind_some, ne_eq, Int.reduceEq, not_false_eq_true, not_true_eq_false, decide_true, decide_false, Bool.not_true, Bool.not_false, *])

/-! terms, steps -/
inductive Tm where
  | nm (x : Str) | num (i : Int) | txt (z : Str) | bin (b : Bool) (l r : Tm)
def bw (b : Bool) : Str := if b then "less" else "plus"
def bs (b : Bool) : Str := if b then "-" else "+"
def eT : Tm → D
  | .nm x => .tup [.str "name", .str x]
  | .num i => .tup [.str "num", .int i]
  | .txt z => .tup [.str "text", .str z]
  | .bin b l r => .tup [.str (bw b), eT l, eT r]
inductive Stp where
  | need (k : Str) (t : Tm) (w : Str) | alike (l r : Tm) | bound (x : Str)
def eP : Stp → D
  | .need k t w => .tup [.str "need", .str k, eT t, .str w]
  | .alike l r => .tup [.str "alike", eT l, eT r]
  | .bound x => .tup [.str "bound", .tup [.str "name", .str x]]
def sT : Tm → List Stp
  | .bin b l r => sT l ++ .need "number" l (bs b) :: (sT r ++ [.need "number" r (bs b)])
  | _ => []
def sS (sg : Str) (l r : Tm) : List Stp := sT l ++ .need "number" l sg :: (sT r ++ [.need "number" r sg])
def okT : Tm → Nat → Prop
  | .bin _ l r, d => ∃ e, d = e + 1 ∧ okT l e ∧ okT r e
  | _, _ => True
theorem sT_len : ∀ {t : Tm} {d : Nat}, okT t d → (sT t).length + 2 ≤ 2 ^ (d + 2)
  | .nm _, d, _ => by
    have : 2 ^ 2 ≤ 2 ^ (d + 2) := Nat.pow_le_pow_right (by omega) (by omega)
    simp only [sT, List.length_nil]; omega
  | .num _, d, _ => by
    have : 2 ^ 2 ≤ 2 ^ (d + 2) := Nat.pow_le_pow_right (by omega) (by omega)
    simp only [sT, List.length_nil]; omega
  | .txt _, d, _ => by
    have : 2 ^ 2 ≤ 2 ^ (d + 2) := Nat.pow_le_pow_right (by omega) (by omega)
    simp only [sT, List.length_nil]; omega
  | .bin b l r, _, ⟨e, rfl, hl, hr⟩ => by
    have h1 := sT_len hl
    have h2 := sT_len hr
    have : 2 ^ (e + 1 + 2) = 2 ^ (e + 2) + 2 ^ (e + 2) := by rw [show e + 1 + 2 = (e + 2) + 1 by omega, Nat.pow_succ]; omega
    simp only [sT, List.length_append, List.length_cons, List.length_nil]; omega
theorem cN : c_NUMBER = .str "number" := rfl
theorem cW : c_WORD = .str "word" := rfl
theorem lk_b (b : Bool) : c_SIGNS_OF_WORDS.lookup (bw b) = some (.str (bs b)) := by cases b <;> rfl
theorem lk_no {t : Tm} (h : ∀ b l r, t ≠ .bin b l r) : ∃ w xs, eT t = .tup (.str w :: xs) ∧ c_SIGNS_OF_WORDS.lookup w = none := by
  cases t with
  | nm x => exact ⟨_, _, rfl, rfl⟩
  | num i => exact ⟨_, _, rfl, rfl⟩
  | txt z => exact ⟨_, _, rfl, rfl⟩
  | bin b l r => exact absurd rfl (h b l r)
theorem at0 {x : D} {xs : List D} : atI (x :: xs) 0 = some x := by
  have q : (x :: xs)[0]? = some x := rfl
  exact atI_nat q
theorem at1 {x y : D} {xs : List D} : atI (x :: y :: xs) 1 = some y := by
  have q : (x :: y :: xs)[1]? = some y := rfl
  exact atI_nat q
theorem at2 {x y z : D} {xs : List D} : atI (x :: y :: z :: xs) 2 = some z := by
  have q : (x :: y :: z :: xs)[2]? = some z := rfl
  exact atI_nat q
theorem at3 {x y z u : D} {xs : List D} : atI (x :: y :: z :: u :: xs) 3 = some u := by
  have q : (x :: y :: z :: u :: xs)[3]? = some u := rfl
  exact atI_nat q
/-! inside a term -/
theorem side1 {rs ri : List D → HP → R D} {t : Tm} {sg : Str} {S : Nat} {h h1 : HP} {L1 : List D} {x1 x2 : Option D} (hi : ri [eT t, .ref S] h = .ok .non h1) (e : h1[S]? = some (.lst L1)) (hl : L1.length < 1000000) :
    L_u_add_steps_of_sides_1 rs ri [some (.str sg), x1, x2, some (.ref S), some (eT t)] h = .nx [some (.str sg), x1, x2, some (.ref S), some (eT t)] (h1.set S (.lst (L1 ++ [eP (.need "number" t sg)]))) := by
  have cn := cN
  have ep : eP (.need "number" t sg) = .tup [.str "need", .str "number", eT t, .str sg] := rfl
  rw [ep]
  unfold L_u_add_steps_of_sides_1
  clear ep
  generalize eT t = z at *
  walk_at "pm"
def InOk (n : Nat) : Prop := ∀ t d, okT t d → 2 * d < n → ∀ (h : HP) (S : Nat) (L : List D), h[S]? = some (.lst L) → L.length + (sT t).length ≤ 10000 → ∃ h', m_u_add_steps_inside n [eT t, .ref S] h = .ok .non h' ∧ Fr S h h' ∧ h'[S]? = some (.lst (L ++ (sT t).map eP))
def SdOk (n : Nat) : Prop := ∀ sg l r d, okT l d → okT r d → 2 * d + 1 < n → ∀ (h : HP) (S : Nat) (L : List D), h[S]? = some (.lst L) → L.length + (sS sg l r).length ≤ 10000 → ∃ h', m_u_add_steps_of_sides n [.str sg, eT l, eT r, .ref S] h = .ok .non h' ∧ Fr S h h' ∧ h'[S]? = some (.lst (L ++ (sS sg l r).map eP))
theorem in_sd : ∀ n, InOk n ∧ SdOk n
  | 0 => ⟨fun _ _ _ hn => by omega, fun _ _ _ _ _ _ hn => by omega⟩
  | n + 1 => by
    obtain ⟨ih1, ih2⟩ := in_sd n
    refine ⟨fun t d ok hn h S L e hl => ?_, fun sg l r d ol or hn h S L e hl => ?_⟩
    · by_cases c : ∃ b l r, t = .bin b l r
      · obtain ⟨b, l, r, rfl⟩ := c
        obtain ⟨k, rfl, ol, or⟩ := ok
        obtain ⟨h', e1, f1, g1⟩ := ih2 (bs b) l r k ol or (by omega) h S L e hl
        refine ⟨h', ?_, f1, g1⟩
        have lk := lk_b b
        have a0 := @at0 (.str (bw b)) [eT l, eT r]
        show runDef 5 (b_u_add_steps_inside (m_u_add_steps_of_sides n) (m_u_add_steps_inside n)) [.tup [.str (bw b), eT l, eT r], .ref S] h = _
        unfold b_u_add_steps_inside
        generalize eT l = zl at *
        generalize eT r = zr at *
        generalize m_u_add_steps_of_sides n = ms at *
        clear ih1 ih2 ol or g1 f1
        have li : (Option.isSome (some (D.str (bs b)))) = true := rfl
        walk_at "pm"
      · obtain ⟨w, xs, et, lk⟩ := lk_no (t := t) fun b l r e => c ⟨b, l, r, e⟩
        have st : sT t = [] := by
          cases t with
          | bin b l r => exact absurd ⟨b, l, r, rfl⟩ c
          | _ => rfl
        refine ⟨h, ?_, Fr.refl _ _, by rw [st]; simpa using e⟩
        have a0 := @at0 (.str w) xs
        rw [et]
        show runDef 5 (b_u_add_steps_inside (m_u_add_steps_of_sides n) (m_u_add_steps_inside n)) [.tup (.str w :: xs), .ref S] h = _
        unfold b_u_add_steps_inside
        have li : (Option.isSome (none : Option D)) = false := rfl
        clear ih1 ih2 et st c
        walk_at "pm"
    · have ln : (sS sg l r).length = (sT l).length + 1 + (sT r).length + 1 := by unfold sS; simp; omega
      obtain ⟨h1, e1, f1, g1⟩ := ih1 l d ol (by omega) h S L e (by omega)
      have s1 := side1 (rs := m_u_add_steps_of_sides n) (sg := sg) (x1 := some (eT l)) (x2 := some (eT r)) e1 g1 (by simp; omega)
      have g2 : (h1.set S (.lst ((L ++ (sT l).map eP) ++ [eP (.need "number" l sg)])))[S]? = some (.lst ((L ++ (sT l).map eP) ++ [eP (.need "number" l sg)])) := List.getElem?_set_self (get_lt g1)
      obtain ⟨h3, e3, f3, g3⟩ := ih1 r d or (by omega) _ S _ g2 (by simp; omega)
      have s3 := side1 (rs := m_u_add_steps_of_sides n) (sg := sg) (x1 := some (eT l)) (x2 := some (eT r)) e3 g3 (by simp; omega)
      refine ⟨h3.set S (.lst (((((L ++ (sT l).map eP) ++ [eP (.need "number" l sg)]) ++ (sT r).map eP) ++ [eP (.need "number" r sg)]))), ?_, ((f1.trans (Fr.set _ _ _)).trans f3).trans (Fr.set _ _ _), ?_⟩
      rotate_left
      · rw [List.getElem?_set_self (get_lt g3)]
        unfold sS
        simp
      have mf : mFor (iA (mTup (mCons (mVar 1) (mCons (mVar 2) (mNil))))) (gN 4) (L_u_add_steps_of_sides_1 (m_u_add_steps_of_sides n) (m_u_add_steps_inside n)) [some (.str sg), some (eT l), some (eT r), some (.ref S), none] h = .nx [some (.str sg), some (eT l), some (eT r), some (.ref S), some (eT r)] (h3.set S (.lst (((((L ++ (sT l).map eP) ++ [eP (.need "number" l sg)]) ++ (sT r).map eP) ++ [eP (.need "number" r sg)])))) := by
        rw [mFor_ok (xs := [eT l, eT r]) (G := fun _ => True) (h' := h) rfl, mLoop_nx trivial rfl (.inl s1), mLoop_nx trivial rfl (.inl s3), mLoop_nil trivial]
      show runDef 5 (b_u_add_steps_of_sides (m_u_add_steps_of_sides n) (m_u_add_steps_inside n)) [.str sg, eT l, eT r, .ref S] h = _
      unfold b_u_add_steps_of_sides
      rw [runDef_ap]
      show fin (mFor _ _ _ [some (.str sg), some (eT l), some (eT r), some (.ref S), none] h) = _
      rw [mf]
      rfl
theorem in_ok {t : Tm} {d n : Nat} (ok : okT t d) (hn : 2 * d < n) {h : HP} {S : Nat} {L : List D} (e : h[S]? = some (.lst L)) (hl : L.length + (sT t).length ≤ 10000) : ∃ h', m_u_add_steps_inside n [eT t, .ref S] h = .ok .non h' ∧ Fr S h h' ∧ h'[S]? = some (.lst (L ++ (sT t).map eP)) := (in_sd n).1 t d ok hn h S L e hl
theorem sd_ok {sg : Str} {l r : Tm} {d n : Nat} (ol : okT l d) (or : okT r d) (hn : 2 * d + 1 < n) {h : HP} {S : Nat} {L : List D} (e : h[S]? = some (.lst L)) (hl : L.length + (sS sg l r).length ≤ 10000) : ∃ h', m_u_add_steps_of_sides n [.str sg, eT l, eT r, .ref S] h = .ok .non h' ∧ Fr S h h' ∧ h'[S]? = some (.lst (L ++ (sS sg l r).map eP)) := (in_sd n).2 sg l r d ol or hn h S L e hl
end K13
end
section
set_option Elab.async false
set_option linter.all false
set_option maxRecDepth 100000
set_option maxHeartbeats 2000000
namespace K13
open PySem L2 PM
local macro_rules | `(tactic| walk_at "pm") => `(tactic| simp (config := { decide := true }) only [bind_ok, toS_ok, seq_nx, seq_rt, seq_bk, seq_ct, seq_exc, bind_exc, toS_exc, mSeq_ap, mNext_ap, mSet_ap, kSet_ap, mAsg_ap, kAsg_ap, ofS_some, gN_ap, gTup_ap, gCons_ap, gNil_ap, mDrop_ap, kDrop_ap, mRet_ap, mRetN_ap, mIfS_ap, kIf_t, kIf_f, mBreak_ap, mCont_ap, mBad_ap, mAug_ap, kAug_ap, mVar_ap, mC_ap, m1_ap, k1_ap, m2_ap, k2_ap, k2'_ap, ofO_some, mNil_ap, mCons_ap, kC_ap, kC'_ap, mCall_ap, mB_ap, kB_ap, mMeth_ap, kM_ap, kM'_ap, mTest_ap, kBl_ap, mNot_ap, kNot_ap, mAnd_ap, kAnd_t, kAnd_f, mOr_ap, kOr_t, kOr_f, mIfE_ap, kIfE_t, kIfE_f, mAndV_ap, kAndV_t, kAndV_f, mOrV_ap, kOrV_t, kOrV_f, mNotV_ap, kNotV_ap, mTup_ap, kTup_ap, mLst_ap, kLst_ap, mNoPart_ap, mPart_ap, kInt_ap, mSl_ap, kSl1_ap, kSl2_ap, kSl3_ap, mChain_ap, kCh0_ap, kCh1_ap, kCh2_t, kCh2_f, kCh3_ap, mPutD_ap, kP1_ap, kP2_ap, kP3_ap, runDef_ap, fin_nx, fin_rt, fin_exc, mYes_ap, add_ii, iadd_ii, add_ss, sub_ii, mul_ii, mul_si, mod_ii, fdiv_ii, pow_ii, neg_i, ord_ii, ord_ss, eq_ii, ne_ii, eq_ss, ne_ss, is_non, isn_non, int_i, len_s, len_t, min_ii, sl_s, in_c, nin_c, split_s, str1_ss, find4_s, ty_str, ord_c, iR1_ap, itR1_i, iS_ap, itS_s, iT_ap, itT_t, iE_ap, oD_some, len_r, oLen_l, oLen_r, oKey_s, it_ref, itH_r, itH_t, itH_s, oIH_d, oIH_l, oIH_r, tupF_r, oTupF_l, mTupF_ap, kTupF_ap, seq_t, seq_s, seq_r, oSeq_l, mStar_ap, kSt_ap, kSt1_s, kSt2_ap, lst_d, oLst_s, mTupRev_ap, kRev_t, kRev_s, len_st, min_l, oTy_t, oTy_d, isi_i, isi_s, mIdx_ap, kIx_s, kIxs_ap, kIx1_s, iA_ap, itA_t, itA_s, oItem_d, oItem_l, oItem_r, it_tup, oC_some, it_str, keyD_s, keyD_i, app_r, oApp_l, ext_r, oExt_l, ty_ref, oTy_l, isi_ref, oIsi_l, put_ref, oPut_d, oPutK_s, oBls_s, all_r, oAll_l, tup_r, oTup_l, itE_r, oEnum_l, slT_t, addL_r, oCat_l, lenQ_r, oLenQ_d, isiT_t, isiT_i, isiT_s, isiT_n, mInK_ap, kInK_s, mAtK_ap, kAtK_s, kAtK1_s, mPar_ap, kPar_ap, mPutJ_ap, kJ1_ap, kJ2_ap, mRaise_ap, kRaise_1, get1_r, List.map_cons, List.map_nil, List.length_cons, List.length_nil, List.replicate, List.cons_append, List.nil_append, List.set_cons_zero, List.set_cons_succ, List.getElem?_cons_zero, List.getElem?_cons_succ, Nat.reduceSub, Nat.reduceAdd, Nat.reduceLeDiff, Nat.reduceLT,  cond_true, cond_false, if_true, if_false, ite_true, ite_false, Bool.false_eq_true, reduceIte, Nat.zero_add, Option.bind_some, ne_eq, Int.reduceEq, not_false_eq_true, not_true_eq_false, decide_true, decide_false, Bool.not_true, Bool.not_false, *])

inductive Co where
  | ev1 (b : Tm) | ev2 (a b : Tm) | cmp (sg : Str) (l r : Tm) | tru | not (f : Co) | two (o : Bool) (f g : Co) | som (x : Str) (f : Co) | bef (f : Co) | unt (f g : Co) | grp (own fn : Str) (val : Option Str) (f : Co)
def tw (o : Bool) : Str := if o then "or" else "and"
def eV : Option Str → D
  | some v => .str v
  | none => .non
def eC : Co → D
  | .ev1 b => .tup [.str "event", .str "p", .tup [eT b]]
  | .ev2 a b => .tup [.str "event", .str "q", .tup [eT a, eT b]]
  | .cmp sg l r => .tup [.str "compare", .str sg, eT l, eT r]
  | .tru => .tup [.str "true"]
  | .not f => .tup [.str "not", eC f]
  | .two o f g => .tup [.str (tw o), eC f, eC g]
  | .som x f => .tup [.str "some", .str x, eC f]
  | .bef f => .tup [.str "before", .int 0, .int 5, eC f]
  | .unt f g => .tup [.str "until", .int 0, .int 5, eC f, eC g]
  | .grp own fn val f => .tup [.str "group", .str own, .str fn, eV val, .tup [], eC f]
def sV (fn : Str) : Option Str → List Stp
  | some v => [.need "number" (.nm v) fn]
  | none => []
def sC : Co → List Stp
  | .ev1 b => [.need "number" b "p"]
  | .ev2 a b => [.need "word" a "q", .need "number" b "q"]
  | .cmp sg l r => if sg = "=" then sT l ++ (sT r ++ [.alike l r]) else sS sg l r
  | .tru => []
  | .not f => sC f
  | .two _ f g => sC f ++ sC g
  | .som x f => .bound x :: sC f
  | .bef f => sC f
  | .unt f g => sC f ++ sC g
  | .grp own fn val f => sC f ++ .need "number" (.nm own) fn :: sV fn val
def okC : Co → Nat → Prop
  | .ev1 b, _ => okT b 0
  | .ev2 a b, _ => okT a 0 ∧ okT b 0
  | .cmp sg l r, _ => okT l 2 ∧ okT r 2
  | .tru, _ => True
  | .not f, d => ∃ e, d = e + 1 ∧ okC f e
  | .two _ f g, d => ∃ e, d = e + 1 ∧ okC f e ∧ okC g e
  | .som _ f, d => ∃ e, d = e + 1 ∧ okC f e
  | .bef f, d => ∃ e, d = e + 1 ∧ okC f e
  | .unt f g, d => ∃ e, d = e + 1 ∧ okC f e ∧ okC g e
  | .grp _ _ _ f, d => ∃ e, d = e + 1 ∧ okC f e
theorem pow_d (d : Nat) : 1 ≤ 2 ^ d ∧ 2 ^ (d + 1) = 2 ^ d + 2 ^ d := ⟨Nat.one_le_two_pow, by rw [Nat.pow_succ]; omega⟩
theorem sC_len : ∀ {c : Co} {d : Nat}, okC c d → (sC c).length + 40 ≤ 80 * 2 ^ d
  | .ev1 b, d, _ => by have := pow_d d; simp only [sC, List.length_cons, List.length_nil]; omega
  | .ev2 a b, d, _ => by have := pow_d d; simp only [sC, List.length_cons, List.length_nil]; omega
  | .cmp sg l r, d, ⟨h1, h2⟩ => by
    have := pow_d d
    have a := sT_len h1
    have b := sT_len h2
    have p : 2 ^ (2 + 2) = 16 := rfl
    unfold sC
    split
    · simp only [List.length_append, List.length_cons, List.length_nil]; omega
    · unfold sS; simp only [List.length_append, List.length_cons, List.length_nil]; omega
  | .tru, d, _ => by have := pow_d d; simp only [sC, List.length_nil]; omega
  | .not f, _, ⟨e, rfl, hf⟩ => by have := pow_d e; have := sC_len hf; simp only [sC]; omega
  | .two o f g, _, ⟨e, rfl, hf, hg⟩ => by have := pow_d e; have := sC_len hf; have := sC_len hg; simp only [sC, List.length_append]; omega
  | .som x f, _, ⟨e, rfl, hf⟩ => by have := pow_d e; have := sC_len hf; simp only [sC, List.length_cons]; omega
  | .bef f, _, ⟨e, rfl, hf⟩ => by have := pow_d e; have := sC_len hf; simp only [sC]; omega
  | .unt f g, _, ⟨e, rfl, hf, hg⟩ => by have := pow_d e; have := sC_len hf; have := sC_len hg; simp only [sC, List.length_append]; omega
  | .grp own fn val f, _, ⟨e, rfl, hf⟩ => by
    have := pow_d e; have := sC_len hf
    simp only [sC, List.length_append, List.length_cons]
    cases val <;> (simp only [sV, List.length_nil, List.length_cons]; omega)
/-! the parts of a rule -/
theorem ri_tru (h : HP) : m_rules_in [.tup [.str "true"]] h = .ok (.tup []) h := rfl
theorem ri_not (x : D) (h : HP) : m_rules_in [.tup [.str "not", x]] h = .ok (.tup [x]) h := rfl
theorem ri_two (o : Bool) (x y : D) (h : HP) : m_rules_in [.tup [.str (tw o), x, y]] h = .ok (.tup [x, y]) h := by cases o <;> rfl
theorem ri_bef (a b x : D) (h : HP) : m_rules_in [.tup [.str "before", a, b, x]] h = .ok (.tup [x]) h := rfl
theorem ri_unt (a b x y : D) (h : HP) : m_rules_in [.tup [.str "until", a, b, x, y]] h = .ok (.tup [x, y]) h := rfl
def evK : List (Key × D) := [(.inr "p", .tup [.str "number"]), (.inr "q", .tup [.str "word", .str "number"])]
def AdOk (n : Nat) : Prop := ∀ c d, okC c d → d < n → ∀ (h : HP) (Ev S : Nat) (L : List D), h[S]? = some (.lst L) → h[Ev]? = some (.dic evK) → L.length + (sC c).length ≤ 10000 → ∃ h', m_u_add_steps n [eC c, .ref Ev, .ref S] h = .ok .non h' ∧ Fr S h h' ∧ h'[S]? = some (.lst (L ++ (sC c).map eP))
theorem ne_of_obs {h : HP} {a b : Nat} {x y : Ob} (e1 : h[a]? = some x) (e2 : h[b]? = some y) (n : x ≠ y) : a ≠ b := fun e => by
  subst e; rw [e1] at e2; exact n (Option.some.inj e2)
theorem add1 {ra : List D → HP → R D} {c k b : D} {z : Str} {rest : List D} {S : Nat} {h : HP} {L : List D} {x1 x3 x6 x7 x8 x9 x10 x11 x12 : Option D} (ec : c = .tup (.str "event" :: .str z :: rest)) (e : h[S]? = some (.lst L)) (hl : L.length < 1000000) :
    L_u_add_steps_1 ra [some c, x1, some (.ref S), x3, some k, some b, x6, x7, x8, x9, x10, x11, x12] h = .nx [some c, x1, some (.ref S), x3, some k, some b, x6, x7, x8, x9, x10, x11, x12] (h.set S (.lst (L ++ [.tup [.str "need", k, b, .str z]]))) := by
  subst ec
  have a1 := @at1 (.str "event") (.str z) rest
  unfold L_u_add_steps_1
  walk_at "pm"
theorem add2 {ra : List D → HP → R D} {S : Nat} {h : HP} {L : List D} {z fn : Str} {x0 x1 x3 x4 x5 x6 x7 x9 x10 x11 : Option D} (e : h[S]? = some (.lst L)) (hl : L.length < 1000000) :
    L_u_add_steps_2 ra [x0, x1, some (.ref S), x3, x4, x5, x6, x7, some (.str fn), x9, x10, x11, some (.str z)] h = .nx [x0, x1, some (.ref S), x3, x4, x5, x6, x7, some (.str fn), x9, x10, x11, some (.str z)] (h.set S (.lst (L ++ [eP (.need "number" (.nm z) fn)]))) := by
  have cn := cN
  have ep : eP (.need "number" (.nm z) fn) = .tup [.str "need", .str "number", .tup [.str "name", .str z], .str fn] := rfl
  rw [ep]
  unfold L_u_add_steps_2
  walk_at "pm"
theorem add3 {ra : List D → HP → R D} {Ev S : Nat} {h h1 : HP} {d : D} {x0 x3 x4 x5 x6 x7 x8 x9 x11 x12 : Option D} (hi : ra [d, .ref Ev, .ref S] h = .ok .non h1) :
    L_u_add_steps_3 ra [x0, some (.ref Ev), some (.ref S), x3, x4, x5, x6, x7, x8, x9, some d, x11, x12] h = .nx [x0, some (.ref Ev), some (.ref S), x3, x4, x5, x6, x7, x8, x9, some d, x11, x12] h1 := by
  unfold L_u_add_steps_3
  walk_at "pm"
theorem parts_ok {n : Nat} (ih : AdOk n) {Ev S : Nat} {x0 x3 x4 x5 x6 x7 x8 x9 x11 x12 : Option D} : ∀ {fs : List Co} {d : Nat} {h : HP} {L : List D} {x10 : Option D}, (∀ f ∈ fs, okC f d) → (fs ≠ [] → d < n) → h[S]? = some (.lst L) → h[Ev]? = some (.dic evK) → L.length + (fs.flatMap sC).length ≤ 10000 →
    ∃ h' y10, mLoop (fun _ => True) (gN 10) (L_u_add_steps_3 (m_u_add_steps n)) (fs.map eC) [x0, some (.ref Ev), some (.ref S), x3, x4, x5, x6, x7, x8, x9, x10, x11, x12] h = .nx [x0, some (.ref Ev), some (.ref S), x3, x4, x5, x6, x7, x8, x9, y10, x11, x12] h' ∧ Fr S h h' ∧ h'[S]? = some (.lst (L ++ (fs.flatMap sC).map eP))
  | [], d, h, L, x10, _, _, e, _, _ => ⟨h, x10, mLoop_nil trivial, Fr.refl _ _, by simpa using e⟩
  | f :: fs, d, h, L, x10, ok, hn, e, ev, hl => by
    rw [List.flatMap_cons, List.length_append] at hl
    have ne := ne_of_obs ev e (fun z => by cases z)
    obtain ⟨h1, e1, f1, g1⟩ := ih f d (ok f List.mem_cons_self) (hn (by simp)) h Ev S L e ev (by omega)
    obtain ⟨h2, y10, e2, f2, g2⟩ := parts_ok ih (fs := fs) (h := h1) (x10 := some (eC f)) (fun f hf => ok f (List.mem_cons_of_mem _ hf)) (fun _ => hn (by simp)) g1 (f1.at' _ _ ne ev) (by simp; simp at hl; omega) (x0 := x0) (x3 := x3) (x4 := x4) (x5 := x5) (x6 := x6) (x7 := x7) (x8 := x8) (x9 := x9) (x11 := x11) (x12 := x12)
    refine ⟨h2, y10, ?_, f1.trans f2, by rw [List.flatMap_cons, List.map_append, ← List.append_assoc]; exact g2⟩
    rw [List.map_cons, mLoop_nx trivial rfl (.inl (add3 e1))]
    exact e2
theorem cmp_ok {sg : Str} {l r : Tm} (ol : okT l 2) (or : okT r 2) {h : HP} {S : Nat} {L : List D} (e : h[S]? = some (.lst L)) (hl : L.length + (sC (.cmp sg l r)).length ≤ 10000) : ∃ h', m_u_add_steps_of_compare [eC (.cmp sg l r), .ref S] h = .ok .non h' ∧ Fr S h h' ∧ h'[S]? = some (.lst (L ++ (sC (.cmp sg l r)).map eP)) := by
  by_cases c : sg = "="
  · subst c
    have q : sC (.cmp "=" l r) = sT l ++ (sT r ++ [.alike l r]) := by unfold sC; rw [if_pos rfl]
    rw [q] at hl ⊢
    simp only [List.length_append, List.length_cons, List.length_nil] at hl
    obtain ⟨h1, e1, f1, g1⟩ := in_ok (n := 20) ol (by omega) e (by omega)
    obtain ⟨h2, e2, f2, g2⟩ := in_ok (n := 20) or (by omega) g1 (by simp; omega)
    refine ⟨h2.set S (.lst ((L ++ (sT l).map eP) ++ (sT r).map eP ++ [eP (.alike l r)])), ?_, (f1.trans f2).trans (Fr.set _ _ _), by rw [List.getElem?_set_self (get_lt g2)]; simp⟩
    have ep : eP (.alike l r) = .tup [.str "alike", eT l, eT r] := rfl
    rw [ep]
    have ln : ((L ++ (sT l).map eP) ++ (sT r).map eP).length < 1000000 := by simp; omega
    show m_u_add_steps_of_compare [.tup [.str "compare", .str "=", eT l, eT r], .ref S] h = _
    unfold m_u_add_steps_of_compare b_u_add_steps_of_compare
    generalize (L ++ (sT l).map eP) ++ (sT r).map eP = LL at *
    generalize eT l = zl at *
    generalize eT r = zr at *
    clear ep q f1 f2 g1 e ol or
    walk_at "pm"
  · have q : sC (.cmp sg l r) = sS sg l r := by unfold sC; rw [if_neg c]
    rw [q] at hl ⊢
    obtain ⟨h1, e1, f1, g1⟩ := sd_ok (n := 20) (sg := sg) ol or (by omega) e hl
    refine ⟨h1, ?_, f1, g1⟩
    have c' := eq_false c
    show m_u_add_steps_of_compare [.tup [.str "compare", .str sg, eT l, eT r], .ref S] h = _
    unfold m_u_add_steps_of_compare b_u_add_steps_of_compare
    generalize eT l = zl at *
    generalize eT r = zr at *
    clear q f1 g1 e ol or c
    walk_at "pm"
end K13
end
section
set_option Elab.async false
set_option linter.all false
set_option maxRecDepth 100000
set_option maxHeartbeats 4000000
namespace K13
open PySem L2 PM
local macro_rules | `(tactic| walk_at "pm") => `(tactic| simp (config := { decide := true }) only [bind_ok, toS_ok, seq_nx, seq_rt, seq_bk, seq_ct, seq_exc, bind_exc, toS_exc, mSeq_ap, mNext_ap, mSet_ap, kSet_ap, mAsg_ap, kAsg_ap, ofS_some, gN_ap, gTup_ap, gCons_ap, gNil_ap, mDrop_ap, kDrop_ap, mRet_ap, mRetN_ap, mIfS_ap, kIf_t, kIf_f, mBreak_ap, mCont_ap, mBad_ap, mAug_ap, kAug_ap, mVar_ap, mC_ap, m1_ap, k1_ap, m2_ap, k2_ap, k2'_ap, ofO_some, mNil_ap, mCons_ap, kC_ap, kC'_ap, mCall_ap, mB_ap, kB_ap, mMeth_ap, kM_ap, kM'_ap, mTest_ap, kBl_ap, mNot_ap, kNot_ap, mAnd_ap, kAnd_t, kAnd_f, mOr_ap, kOr_t, kOr_f, mIfE_ap, kIfE_t, kIfE_f, mAndV_ap, kAndV_t, kAndV_f, mOrV_ap, kOrV_t, kOrV_f, mNotV_ap, kNotV_ap, mTup_ap, kTup_ap, mLst_ap, kLst_ap, mNoPart_ap, mPart_ap, kInt_ap, mSl_ap, kSl1_ap, kSl2_ap, kSl3_ap, mChain_ap, kCh0_ap, kCh1_ap, kCh2_t, kCh2_f, kCh3_ap, mPutD_ap, kP1_ap, kP2_ap, kP3_ap, runDef_ap, fin_nx, fin_rt, fin_exc, mYes_ap, add_ii, iadd_ii, add_ss, sub_ii, mul_ii, mul_si, mod_ii, fdiv_ii, pow_ii, neg_i, ord_ii, ord_ss, eq_ii, ne_ii, eq_ss, ne_ss, is_non, isn_non, int_i, len_s, len_t, min_ii, sl_s, in_c, nin_c, split_s, str1_ss, find4_s, ty_str, ord_c, iR1_ap, itR1_i, iS_ap, itS_s, iT_ap, itT_t, iE_ap, oD_some, len_r, oLen_l, oLen_r, oKey_s, it_ref, itH_r, itH_t, itH_s, oIH_d, oIH_l, oIH_r, tupF_r, oTupF_l, mTupF_ap, kTupF_ap, seq_t, seq_s, seq_r, oSeq_l, mStar_ap, kSt_ap, kSt1_s, kSt2_ap, lst_d, oLst_s, mTupRev_ap, kRev_t, kRev_s, len_st, min_l, oTy_t, oTy_d, isi_i, isi_s, mIdx_ap, kIx_s, kIxs_ap, kIx1_s, iA_ap, itA_t, itA_s, oItem_d, oItem_l, oItem_r, it_tup, oC_some, it_str, keyD_s, keyD_i, app_r, oApp_l, ext_r, oExt_l, ty_ref, oTy_l, isi_ref, oIsi_l, put_ref, oPut_d, oPutK_s, oBls_s, all_r, oAll_l, tup_r, oTup_l, itE_r, oEnum_l, slT_t, addL_r, oCat_l, lenQ_r, oLenQ_d, isiT_t, isiT_i, isiT_s, isiT_n, mInK_ap, kInK_s, mAtK_ap, kAtK_s, kAtK1_s, mPar_ap, kPar_ap, mPutJ_ap, kJ1_ap, kJ2_ap, mRaise_ap, kRaise_1, get1_r, List.map_cons, List.map_nil, List.length_cons, List.length_nil, List.replicate, List.cons_append, List.nil_append, List.set_cons_zero, List.set_cons_succ, List.getElem?_cons_zero, List.getElem?_cons_succ, Nat.reduceSub, Nat.reduceAdd, Nat.reduceLeDiff, Nat.reduceLT,  cond_true, cond_false, if_true, if_false, ite_true, ite_false, Bool.false_eq_true, reduceIte, Nat.zero_add, Option.bind_some, ne_eq, Int.reduceEq, not_false_eq_true, not_true_eq_false, decide_true, decide_false, Bool.not_true, Bool.not_false, *])

theorem iz_ap (t : MA) (s : SD) (h : HP) : iZ t s h = (t s h).bind itZ := rfl
theorem evp : getK evK (.inr "p") = some (.tup [.str "number"]) := rfl
theorem evq : getK evK (.inr "q") = some (.tup [.str "word", .str "number"]) := rfl
theorem ki_s (k : Str) : keyD (.str k) = some (.inr k) := rfl
/-- the rest of a rule that is none of the four: its parts in order -/
theorem rest_ok {n d : Nat} (ih : AdOk n) {w : Str} {ds : List D} {fs : List Co} (hr : ∀ h, m_rules_in [.tup (.str w :: ds)] h = .ok (.tup (fs.map eC)) h) (h1 : (w = "event") = False) (h2 : (w = "compare") = False) (h3 : (w = "some") = False) (h4 : (w = "group") = False)
    (ok : ∀ f ∈ fs, okC f d) (hn : fs ≠ [] → d < n) {h : HP} {Ev S : Nat} {L : List D} (e : h[S]? = some (.lst L)) (ev : h[Ev]? = some (.dic evK)) (hl : L.length + (fs.flatMap sC).length ≤ 10000) :
    ∃ h', m_u_add_steps (n + 1) [.tup (.str w :: ds), .ref Ev, .ref S] h = .ok .non h' ∧ Fr S h h' ∧ h'[S]? = some (.lst (L ++ (fs.flatMap sC).map eP)) := by
  obtain ⟨h', y10, e1, f1, g1⟩ := parts_ok ih ok hn e ev hl (x0 := some (.tup (.str w :: ds))) (x3 := some (.str w)) (x4 := none) (x5 := none) (x6 := none) (x7 := none) (x8 := none) (x9 := none) (x10 := none) (x11 := none) (x12 := none)
  refine ⟨h', ?_, f1, g1⟩
  have mf : mFor (iA (mCall m_rules_in (mCons (mVar 0) (mNil)))) (gN 10) (L_u_add_steps_3 (m_u_add_steps n)) [some (.tup (.str w :: ds)), some (.ref Ev), some (.ref S), some (.str w), none, none, none, none, none, none, none, none, none] h = .nx [some (.tup (.str w :: ds)), some (.ref Ev), some (.ref S), some (.str w), none, none, none, none, none, none, y10, none, none] h' := by
    refine (mFor_ok (xs := fs.map eC) (G := fun _ => True) (h' := h) ?_).trans e1
    have hr := hr h
    clear e1 g1 e ev
    walk_at "pm"
  have a0 := @at0 (.str w) ds
  show runDef 13 (b_u_add_steps (m_u_add_steps n)) [.tup (.str w :: ds), .ref Ev, .ref S] h = _
  unfold b_u_add_steps
  clear e1 g1 e ev hr ih
  walk_at "pm"
theorem ev_ok {n : Nat} {z : Str} {ks bs : List D} {S Ev : Nat} {h h' : HP} {y4 y5 : Option D} (ev : h[Ev]? = some (.dic evK)) (gz : getK evK (.inr z) = some (.tup ks))
    (e : mLoop (fun _ => True) (PM.gTup 2 (PM.gCons (gN 4) (PM.gCons (gN 5) (PM.gNil)))) (L_u_add_steps_1 (m_u_add_steps n)) (zipD ks bs) [some (.tup [.str "event", .str z, .tup bs]), some (.ref Ev), some (.ref S), some (.str "event"), none, none, none, none, none, none, none, none, none] h = .nx [some (.tup [.str "event", .str z, .tup bs]), some (.ref Ev), some (.ref S), some (.str "event"), y4, y5, none, none, none, none, none, none, none] h') :
    m_u_add_steps (n + 1) [.tup [.str "event", .str z, .tup bs], .ref Ev, .ref S] h = .ok .non h' := by
  have a0 := @at0 (.str "event") [.str z, .tup bs]
  have a1 := @at1 (.str "event") (.str z) [.tup bs]
  have a2 := @at2 (.str "event") (.str z) (.tup bs) []
  have ks0 := ki_s z
  have mf : mFor (iZ (mCons (m2 itemH (mVar 1) (m2 itemH (mVar 0) (mC (.int 1)))) (mCons (m2 itemH (mVar 0) (mC (.int 2))) (mNil)))) (PM.gTup 2 (PM.gCons (gN 4) (PM.gCons (gN 5) (PM.gNil)))) (L_u_add_steps_1 (m_u_add_steps n)) [some (.tup [.str "event", .str z, .tup bs]), some (.ref Ev), some (.ref S), some (.str "event"), none, none, none, none, none, none, none, none, none] h = .nx [some (.tup [.str "event", .str z, .tup bs]), some (.ref Ev), some (.ref S), some (.str "event"), y4, y5, none, none, none, none, none, none, none] h' := by
    refine (mFor_ok (xs := zipD ks bs) (G := fun _ => True) (h' := h) ?_).trans e
    have iz := @iz_ap
    clear e
    have z : itZ [.tup ks, .tup bs] h = .ok (zipD ks bs, fun _ => True) h := rfl
    walk_at "pm"
  show runDef 13 (b_u_add_steps (m_u_add_steps n)) [.tup [.str "event", .str z, .tup bs], .ref Ev, .ref S] h = _
  unfold b_u_add_steps
  clear e ev gz a1 a2 ks0
  walk_at "pm"
theorem ad_ok : ∀ n, AdOk n
  | 0 => fun _ _ _ hn => by omega
  | n + 1 => by
    have ih := ad_ok n
    intro c d ok hn h Ev S L e ev hl
    have ne := ne_of_obs ev e (fun z => by cases z)
    cases c with
    | ev1 b =>
      refine ⟨h.set S (.lst (L ++ [eP (.need "number" b "p")])), ev_ok (ks := [.str "number"]) (bs := [eT b]) (y4 := some (.str "number")) (y5 := some (eT b)) ev evp ?_, Fr.set _ _ _, by rw [List.getElem?_set_self (get_lt e)]; rfl⟩
      show mLoop _ _ _ [.tup [.str "number", eT b]] _ h = _
      rw [mLoop_nx trivial rfl (.inl (add1 rfl e (by omega))), mLoop_nil trivial]
      rfl
    | ev2 a b =>
      have ll : (L ++ [eP (.need "word" a "q")]).length < 1000000 := by simp; omega
      refine ⟨(h.set S (.lst (L ++ [eP (.need "word" a "q")]))).set S (.lst ((L ++ [eP (.need "word" a "q")]) ++ [eP (.need "number" b "q")])), ev_ok (ks := [.str "word", .str "number"]) (bs := [eT a, eT b]) (y4 := some (.str "number")) (y5 := some (eT b)) ev evq ?_, (Fr.set _ _ _).trans (Fr.set _ _ _), by rw [List.getElem?_set_self (by rw [List.length_set]; exact get_lt e)]; simp [sC]⟩
      show mLoop _ _ _ [.tup [.str "word", eT a], .tup [.str "number", eT b]] _ h = _
      rw [mLoop_nx trivial rfl (.inl (add1 rfl e (by omega)))]
      have e2 : (h.set S (.lst (L ++ [eP (.need "word" a "q")])))[S]? = some (.lst (L ++ [eP (.need "word" a "q")])) := List.getElem?_set_self (get_lt e)
      have a2 := add1 (ra := m_u_add_steps n) (c := .tup [.str "event", .str "q", .tup [eT a, eT b]]) (k := .str "number") (b := eT b) (x1 := some (.ref Ev)) (x3 := some (.str "event")) (x6 := none) (x7 := none) (x8 := none) (x9 := none) (x10 := none) (x11 := none) (x12 := none) rfl e2 ll
      refine (mLoop_nx trivial rfl (.inl a2)).trans ?_
      rw [mLoop_nil trivial]
      rfl
    | cmp sg l r =>
      obtain ⟨h', e1, f1, g1⟩ := cmp_ok (sg := sg) ok.1 ok.2 e hl
      refine ⟨h', ?_, f1, g1⟩
      have a0 := @at0 (.str "compare") [.str sg, eT l, eT r]
      have e1 : m_u_add_steps_of_compare [.tup [.str "compare", .str sg, eT l, eT r], .ref S] h = .ok .non h' := e1
      show runDef 13 (b_u_add_steps (m_u_add_steps n)) [.tup [.str "compare", .str sg, eT l, eT r], .ref Ev, .ref S] h = _
      unfold b_u_add_steps
      clear f1 g1 e ev ok ih
      generalize eT l = zl at *
      generalize eT r = zr at *
      walk_at "pm"
    | tru =>
      exact rest_ok (n := n) (d := 0) (w := "true") (ds := []) (fs := []) ih (fun h => ri_tru h) (by simp; decide) (by simp; decide) (by simp; decide) (by simp; decide) (fun _ h => by cases h) (fun h => absurd rfl h) e ev (by simp; omega)
    | not f =>
      obtain ⟨k, rfl, hf⟩ := ok
      have := rest_ok (n := n) (d := k) (w := "not") (ds := [eC f]) (fs := [f]) ih (fun h => ri_not (eC f) h) (by simp; decide) (by simp; decide) (by simp; decide) (by simp; decide) (fun g h => by simp at h; subst h; exact hf) (fun _ => by omega) e ev (by simpa [sC] using hl)
      simpa [sC, eC] using this
    | two o f g =>
      obtain ⟨k, rfl, hf, hg⟩ := ok
      have := rest_ok (n := n) (d := k) (w := tw o) (ds := [eC f, eC g]) (fs := [f, g]) ih (fun h => ri_two o (eC f) (eC g) h) (by cases o <;> (simp [tw]; decide)) (by cases o <;> (simp [tw]; decide)) (by cases o <;> (simp [tw]; decide)) (by cases o <;> (simp [tw]; decide)) (fun x h => by simp at h; rcases h with rfl | rfl; exact hf; exact hg) (fun _ => by omega) e ev (by simpa [sC] using hl)
      simpa [sC, eC] using this
    | bef f =>
      obtain ⟨k, rfl, hf⟩ := ok
      have := rest_ok (n := n) (d := k) (w := "before") (ds := [.int 0, .int 5, eC f]) (fs := [f]) ih (fun h => ri_bef _ _ (eC f) h) (by simp; decide) (by simp; decide) (by simp; decide) (by simp; decide) (fun g h => by simp at h; subst h; exact hf) (fun _ => by omega) e ev (by simpa [sC] using hl)
      simpa [sC, eC] using this
    | unt f g =>
      obtain ⟨k, rfl, hf, hg⟩ := ok
      have := rest_ok (n := n) (d := k) (w := "until") (ds := [.int 0, .int 5, eC f, eC g]) (fs := [f, g]) ih (fun h => ri_unt _ _ (eC f) (eC g) h) (by simp; decide) (by simp; decide) (by simp; decide) (by simp; decide) (fun x h => by simp at h; rcases h with rfl | rfl; exact hf; exact hg) (fun _ => by omega) e ev (by simpa [sC] using hl)
      simpa [sC, eC] using this
    | som x f =>
      obtain ⟨k, rfl, hf⟩ := ok
      have hl' : L.length + (sC f).length + 1 ≤ 10000 := by simp [sC] at hl; omega
      have e2 : (h.set S (.lst (L ++ [eP (.bound x)])))[S]? = some (.lst (L ++ [eP (.bound x)])) := List.getElem?_set_self (get_lt e)
      obtain ⟨h2, e3, f2, g2⟩ := ih f k hf (by omega) (h.set S (.lst (L ++ [eP (.bound x)]))) Ev S _ e2 (by rw [List.getElem?_set_ne (Ne.symm ne)]; exact ev) (by simp; omega)
      refine ⟨h2, ?_, (Fr.set _ _ _).trans f2, by rw [g2]; simp [sC]⟩
      have a0 := @at0 (.str "some") [.str x, eC f]
      have a1 := @at1 (.str "some") (.str x) [eC f]
      have a2 := @at2 (.str "some") (.str x) (eC f) []
      have ep : eP (.bound x) = .tup [.str "bound", .tup [.str "name", .str x]] := rfl
      have ll : L.length < 1000000 := by omega
      rw [ep] at e3
      show runDef 13 (b_u_add_steps (m_u_add_steps n)) [.tup [.str "some", .str x, eC f], .ref Ev, .ref S] h = _
      unfold b_u_add_steps
      clear f2 g2 e2 ep ih hl ev
      generalize eC f = zf at *
      walk_at "pm"
    | grp own fn val f =>
      obtain ⟨k, rfl, hf⟩ := ok
      have hl' : L.length + (sC f).length + 1 + (sV fn val).length ≤ 10000 := by simp [sC] at hl; omega
      obtain ⟨h1, e1, f1, g1⟩ := ih f k hf (by omega) h Ev S L e ev (by omega)
      have ll : (L ++ (sC f).map eP).length < 1000000 := by simp; omega
      have sc : (sC (.grp own fn val f)).map eP = (sC f).map eP ++ (eP (.need "number" (.nm own) fn) :: (sV fn val).map eP) := by simp [sC]
      rw [sc]
      have b1 := add2 (ra := m_u_add_steps n) (z := own) (fn := fn) (x0 := some (eC (.grp own fn val f))) (x1 := some (.ref Ev)) (x3 := some (.str "group")) (x4 := none) (x5 := none) (x6 := some (.tup [])) (x7 := some (.str own)) (x9 := some (eV val)) (x10 := some (eC f)) (x11 := some (match val with | some v => .tup [.str own, .str v] | none => .tup [.str own])) g1 ll
      generalize hLL : L ++ (sC f).map eP = LL at *
      have e5 : (h1.set S (.lst (LL ++ [eP (.need "number" (.nm own) fn)])))[S]? = some (.lst (LL ++ [eP (.need "number" (.nm own) fn)])) := List.getElem?_set_self (get_lt g1)
      have sp : ∀ xs : List D, L ++ ((sC f).map eP ++ xs) = LL ++ xs := fun xs => by rw [← hLL, List.append_assoc]
      rw [sp]
      cases val with
      | none =>
        refine ⟨h1.set S (.lst (LL ++ [eP (.need "number" (.nm own) fn)])), ?_, f1.trans (Fr.set _ _ _), by rw [e5]; simp [sV]⟩
        have mf : mFor (iA (mVar 11)) (gN 12) (L_u_add_steps_2 (m_u_add_steps n)) [some (eC (.grp own fn none f)), some (.ref Ev), some (.ref S), some (.str "group"), none, none, some (.tup []), some (.str own), some (.str fn), some .non, some (eC f), some (.tup [.str own]), none] h1 = .nx [some (eC (.grp own fn none f)), some (.ref Ev), some (.ref S), some (.str "group"), none, none, some (.tup []), some (.str own), some (.str fn), some .non, some (eC f), some (.tup [.str own]), some (.str own)] (h1.set S (.lst (LL ++ [eP (.need "number" (.nm own) fn)]))) := by
          rw [mFor_ok (xs := [.str own]) (G := fun _ => True) (h' := h1) rfl]
          refine (mLoop_nx trivial rfl (.inl b1)).trans ?_
          rw [mLoop_nil trivial]
          rfl
        have a0 := @at0 (.str "group") [.str own, .str fn, .non, .tup [], eC f]
        have ec : eC (.grp own fn none f) = .tup [.str "group", .str own, .str fn, .non, .tup [], eC f] := rfl
        rw [ec] at mf ⊢
        show runDef 13 (b_u_add_steps (m_u_add_steps n)) [.tup [.str "group", .str own, .str fn, .non, .tup [], eC f], .ref Ev, .ref S] h = _
        unfold b_u_add_steps
        have nn : PM.isNon D.non = true := rfl
        clear b1 g1 f1 e5 sp sc ec ih ev e
        generalize eC f = zf at *
        walk_at "pm"
      | some v =>
        have ll2 : (LL ++ [eP (.need "number" (.nm own) fn)]).length < 1000000 := by rw [← hLL]; simp; omega
        have b2 := add2 (ra := m_u_add_steps n) (z := v) (fn := fn) (x0 := some (eC (.grp own fn (some v) f))) (x1 := some (.ref Ev)) (x3 := some (.str "group")) (x4 := none) (x5 := none) (x6 := some (.tup [])) (x7 := some (.str own)) (x9 := some (.str v)) (x10 := some (eC f)) (x11 := some (.tup [.str own, .str v])) e5 ll2
        refine ⟨(h1.set S (.lst (LL ++ [eP (.need "number" (.nm own) fn)]))).set S (.lst ((LL ++ [eP (.need "number" (.nm own) fn)]) ++ [eP (.need "number" (.nm v) fn)])), ?_, (f1.trans (Fr.set _ _ _)).trans (Fr.set _ _ _), by rw [List.getElem?_set_self (get_lt e5)]; simp [sV]⟩
        have mf : mFor (iA (mVar 11)) (gN 12) (L_u_add_steps_2 (m_u_add_steps n)) [some (eC (.grp own fn (some v) f)), some (.ref Ev), some (.ref S), some (.str "group"), none, none, some (.tup []), some (.str own), some (.str fn), some (.str v), some (eC f), some (.tup [.str own, .str v]), none] h1 = .nx [some (eC (.grp own fn (some v) f)), some (.ref Ev), some (.ref S), some (.str "group"), none, none, some (.tup []), some (.str own), some (.str fn), some (.str v), some (eC f), some (.tup [.str own, .str v]), some (.str v)] ((h1.set S (.lst (LL ++ [eP (.need "number" (.nm own) fn)]))).set S (.lst ((LL ++ [eP (.need "number" (.nm own) fn)]) ++ [eP (.need "number" (.nm v) fn)]))) := by
          rw [mFor_ok (xs := [.str own, .str v]) (G := fun _ => True) (h' := h1) rfl]
          refine (mLoop_nx trivial rfl (.inl b1)).trans ?_
          refine (mLoop_nx trivial rfl (.inl b2)).trans ?_
          exact mLoop_nil trivial
        have a0 := @at0 (.str "group") [.str own, .str fn, .str v, .tup [], eC f]
        have ec : eC (.grp own fn (some v) f) = .tup [.str "group", .str own, .str fn, .str v, .tup [], eC f] := rfl
        rw [ec] at mf ⊢
        show runDef 13 (b_u_add_steps (m_u_add_steps n)) [.tup [.str "group", .str own, .str fn, .str v, .tup [], eC f], .ref Ev, .ref S] h = _
        unfold b_u_add_steps
        have nn : PM.isNon (D.str v) = false := rfl
        clear b1 b2 g1 f1 e5 sp sc ec ih ev e
        generalize eC f = zf at *
        walk_at "pm"
end K13
end
section
set_option Elab.async false
set_option linter.all false
set_option maxRecDepth 100000
set_option maxHeartbeats 4000000
namespace K13
open PySem L2 PM
local macro_rules | `(tactic| walk_at "pm") => `(tactic| simp (config := { decide := true }) only [bind_ok, toS_ok, seq_nx, seq_rt, seq_bk, seq_ct, seq_exc, bind_exc, toS_exc, mSeq_ap, mNext_ap, mSet_ap, kSet_ap, mAsg_ap, kAsg_ap, ofS_some, gN_ap, gTup_ap, gCons_ap, gNil_ap, mDrop_ap, kDrop_ap, mRet_ap, mRetN_ap, mIfS_ap, kIf_t, kIf_f, mBreak_ap, mCont_ap, mBad_ap, mAug_ap, kAug_ap, mVar_ap, mC_ap, m1_ap, k1_ap, m2_ap, k2_ap, k2'_ap, ofO_some, mNil_ap, mCons_ap, kC_ap, kC'_ap, mCall_ap, mB_ap, kB_ap, mMeth_ap, kM_ap, kM'_ap, mTest_ap, kBl_ap, mNot_ap, kNot_ap, mAnd_ap, kAnd_t, kAnd_f, mOr_ap, kOr_t, kOr_f, mIfE_ap, kIfE_t, kIfE_f, mAndV_ap, kAndV_t, kAndV_f, mOrV_ap, kOrV_t, kOrV_f, mNotV_ap, kNotV_ap, mTup_ap, kTup_ap, mLst_ap, kLst_ap, mNoPart_ap, mPart_ap, kInt_ap, mSl_ap, kSl1_ap, kSl2_ap, kSl3_ap, mChain_ap, kCh0_ap, kCh1_ap, kCh2_t, kCh2_f, kCh3_ap, mPutD_ap, kP1_ap, kP2_ap, kP3_ap, runDef_ap, fin_nx, fin_rt, fin_exc, mYes_ap, add_ii, iadd_ii, add_ss, sub_ii, mul_ii, mul_si, mod_ii, fdiv_ii, pow_ii, neg_i, ord_ii, ord_ss, eq_ii, ne_ii, eq_ss, ne_ss, is_non, isn_non, int_i, len_s, len_t, min_ii, sl_s, in_c, nin_c, split_s, str1_ss, find4_s, ty_str, ord_c, iR1_ap, itR1_i, iS_ap, itS_s, iT_ap, itT_t, iE_ap, oD_some, len_r, oLen_l, oLen_r, oKey_s, it_ref, itH_r, itH_t, itH_s, oIH_d, oIH_l, oIH_r, tupF_r, oTupF_l, mTupF_ap, kTupF_ap, seq_t, seq_s, seq_r, oSeq_l, mStar_ap, kSt_ap, kSt1_s, kSt2_ap, lst_d, oLst_s, mTupRev_ap, kRev_t, kRev_s, len_st, min_l, oTy_t, oTy_d, isi_i, isi_s, mIdx_ap, kIx_s, kIxs_ap, kIx1_s, iA_ap, itA_t, itA_s, oItem_d, oItem_l, oItem_r, it_tup, oC_some, it_str, keyD_s, keyD_i, app_r, oApp_l, ext_r, oExt_l, ty_ref, oTy_l, isi_ref, oIsi_l, put_ref, oPut_d, oPutK_s, oBls_s, all_r, oAll_l, tup_r, oTup_l, itE_r, oEnum_l, slT_t, addL_r, oCat_l, lenQ_r, oLenQ_d, isiT_t, isiT_i, isiT_s, isiT_n, mInK_ap, kInK_s, mAtK_ap, kAtK_s, kAtK1_s, mPar_ap, kPar_ap, mPutJ_ap, kJ1_ap, kJ2_ap, mRaise_ap, kRaise_1, get1_r, List.map_cons, List.map_nil, List.length_cons, List.length_nil, List.replicate, List.cons_append, List.nil_append, List.set_cons_zero, List.set_cons_succ, List.getElem?_cons_zero, List.getElem?_cons_succ, Nat.reduceSub, Nat.reduceAdd, Nat.reduceLeDiff, Nat.reduceLT,  cond_true, cond_false, if_true, if_false, ite_true, ite_false, Bool.false_eq_true, reduceIte, Nat.zero_add, Option.bind_some, ne_eq, Int.reduceEq, not_false_eq_true, not_true_eq_false, decide_true, decide_false, Bool.not_true, Bool.not_false, *])

/-! what is known of names -/
abbrev Kn := List (Str × Str)
def eK (kn : Kn) : List (Key × D) := kn.map fun p => (.inr p.1, .str p.2)
def kd (kn : Kn) : Tm → Option Str
  | .nm x => kn.lookup x
  | .txt _ => some "word"
  | _ => some "number"
def give (kn : Kn) (t : Tm) (o : Option Str) : Kn := match t, o with
  | .nm x, some v => (match kn.lookup x with
    | some _ => kn
    | none => kn ++ [(x, v)])
  | _, _ => kn
def learn (kn : Kn) : Stp → Kn
  | .need k t _ => give kn t (some k)
  | .alike l r => give (give kn l (kd kn r)) r (kd (give kn l (kd kn r)) l)
  | .bound _ => kn
theorem getK_eK : ∀ {kn : Kn} {x : Str}, getK (eK kn) (.inr x) = (kn.lookup x).map D.str
  | [], x => rfl
  | (y, v) :: kn, x => by
    have ih := getK_eK (kn := kn) (x := x)
    unfold eK at ih ⊢
    rw [List.map_cons]
    by_cases e : x = y
    · subst e
      simp [getK, List.lookup]
    · have hb : (x == y) = false := by simpa using e
      have ne : ¬ ((.inr y : Key) = .inr x) := fun z => e (Sum.inr.inj z).symm
      rw [List.lookup, hb]
      simp only [getK, List.find?_cons, decide_eq_false ne]
      exact ih
theorem any_eK : ∀ {kn : Kn} {x : Str}, kn.lookup x = none → ((eK kn).any fun kv => decide (kv.1 = (.inr x : Key))) = false
  | [], x, _ => rfl
  | (y, v) :: kn, x, h => by
    by_cases e : x = y
    · subst e; simp [List.lookup] at h
    · have hb : (x == y) = false := by simpa using e
      have h' : kn.lookup x = none := by rw [List.lookup, hb] at h; exact h
      have ne : ¬ ((.inr y : Key) = .inr x) := fun z => e (Sum.inr.inj z).symm
      unfold eK
      rw [List.map_cons, List.any_cons, decide_eq_false ne, Bool.false_or]
      exact any_eK h'
theorem setK_eK {kn : Kn} {x v : Str} (h : kn.lookup x = none) : setK (eK kn) (.inr x) (.str v) = eK (kn ++ [(x, v)]) := by
  unfold setK
  rw [if_neg (by rw [any_eK h]; exact Bool.false_ne_true)]
  unfold eK
  simp
theorem eK_len (kn : Kn) : (eK kn).length = kn.length := by unfold eK; simp
theorem get_some {kn : Kn} {x v : Str} (e : kn.lookup x = some v) : getK (eK kn) (.inr x) = some (.str v) := by rw [getK_eK, e]; rfl
theorem get_none {kn : Kn} {x : Str} (e : kn.lookup x = none) : getK (eK kn) (.inr x) = none := by rw [getK_eK, e]; rfl
theorem set_same {h : HP} {i : Nat} {o : Ob} (e : h[i]? = some o) : h.set i o = h := by
  apply List.ext_getElem?
  intro j
  by_cases q : i = j
  · subst q; rw [List.getElem?_set_self (get_lt e), e]
  · rw [List.getElem?_set_ne q]
theorem setd_dic {h : HP} {i : Nat} {kn : Kn} {x v : Str} (e : h[i]? = some (.dic (eK kn))) (hl : kn.length < 1000000) :
    setdG (.ref i) [.str x, .str v] h = some (eV (some ((kn.lookup x).getD v)), h.set i (.dic (eK (give kn (.nm x) (some v))))) := by
  have hl' : (eK kn).length < 1000000 := by rw [eK_len]; exact hl
  have e0 : setdG (.ref i) [.str x, .str v] h = (match getK (eK kn) (.inr x) with
      | some d => some (d, h)
      | none => some (.str v, h.set i (.dic (setK (eK kn) (.inr x) (.str v))))) := by
    unfold setdG
    dsimp only
    rw [e]
    dsimp only
    rw [if_pos hl']
    rfl
  rw [e0]
  cases q : kn.lookup x with
  | some w =>
    rw [get_some q]
    have g : give kn (.nm x) (some v) = kn := by unfold give; dsimp only; rw [q]
    rw [g, set_same e]
    rfl
  | none =>
    rw [get_none q]
    have g : give kn (.nm x) (some v) = kn ++ [(x, v)] := by unfold give; dsimp only; rw [q]
    rw [g]
    dsimp only
    rw [setK_eK q]
    rfl
theorem oget_eK {kn : Kn} {x : Str} {h : HP} : oGet (some (getK (eK kn) (.inr x))) .non h = some (eV (kn.lookup x), h) := by
  rw [getK_eK]
  cases kn.lookup x <;> rfl
theorem kind_ok {t : Tm} {h : HP} {Kd : Nat} {kn : Kn} (e : h[Kd]? = some (.dic (eK kn))) : m_u_kind [eT t, .ref Kd] h = .ok (eV (kd kn t)) h := by
  have cn := cN
  have cw := cW
  cases t with
  | nm x =>
    have a0 := @at0 (.str "name") [.str x]
    have a1 := @at1 (.str "name") (.str x) []
    have lk : lookD (some (.dic (eK kn))) (.str x) = some (getK (eK kn) (.inr x)) := rfl
    have og := oget_eK (kn := kn) (x := x) (h := h)
    show m_u_kind [.tup [.str "name", .str x], .ref Kd] h = .ok (eV (kn.lookup x)) h
    unfold m_u_kind b_u_kind
    walk_at "pm"
  | num i =>
    have a0 := @at0 (.str "num") [.int i]
    show m_u_kind [.tup [.str "num", .int i], .ref Kd] h = .ok (.str "number") h
    unfold m_u_kind b_u_kind
    walk_at "pm"
  | txt z =>
    have a0 := @at0 (.str "text") [.str z]
    show m_u_kind [.tup [.str "text", .str z], .ref Kd] h = .ok (.str "word") h
    unfold m_u_kind b_u_kind
    walk_at "pm"
  | bin b l r =>
    have a0 := @at0 (.str (bw b)) [eT l, eT r]
    have b1 : (bw b = "name") = False := by cases b <;> (simp [bw]; decide)
    have b2 : (bw b = "text") = False := by cases b <;> (simp [bw]; decide)
    show m_u_kind [.tup [.str (bw b), eT l, eT r], .ref Kd] h = .ok (.str "number") h
    unfold m_u_kind b_u_kind
    walk_at "pm"
theorem nn_o (o : Option Str) : PM.isNon (eV o) = o.isNone := by cases o <;> rfl
theorem give_ok {t : Tm} {o : Option Str} {h : HP} {Kd : Nat} {kn : Kn} (e : h[Kd]? = some (.dic (eK kn))) (hl : kn.length < 1000000) : m_u_give [eT t, eV o, .ref Kd] h = .ok .non (h.set Kd (.dic (eK (give kn t o)))) := by
  have same : ∀ t' o', give kn t' o' = kn → h.set Kd (.dic (eK (give kn t' o'))) = h := fun t' o' g => by rw [g]; exact set_same e
  cases t with
  | nm x =>
    have a0 := @at0 (.str "name") [.str x]
    have a1 := @at1 (.str "name") (.str x) []
    cases o with
    | none =>
      rw [same _ _ rfl]
      have nn : PM.isNon (eV none) = true := rfl
      show m_u_give [.tup [.str "name", .str x], eV none, .ref Kd] h = _
      unfold m_u_give b_u_give
      clear same
      walk_at "pm"
    | some v =>
      have sd := setd_dic (x := x) (v := v) e hl
      have nn : PM.isNon (.str v) = false := rfl
      show m_u_give [.tup [.str "name", .str x], .str v, .ref Kd] h = _
      unfold m_u_give b_u_give
      clear same
      generalize give kn (.nm x) (some v) = gk at *
      walk_at "pm"
  | num i =>
    rw [same _ _ (by cases o <;> rfl)]
    have a0 := @at0 (.str "num") [.int i]
    show m_u_give [.tup [.str "num", .int i], eV o, .ref Kd] h = _
    unfold m_u_give b_u_give
    clear same
    walk_at "pm"
  | txt i =>
    rw [same _ _ (by cases o <;> rfl)]
    have a0 := @at0 (.str "text") [.str i]
    show m_u_give [.tup [.str "text", .str i], eV o, .ref Kd] h = _
    unfold m_u_give b_u_give
    clear same
    walk_at "pm"
  | bin b l r =>
    rw [same _ _ (by cases o <;> rfl)]
    have a0 := @at0 (.str (bw b)) [eT l, eT r]
    have b1 : (bw b = "name") = False := by cases b <;> (simp [bw]; decide)
    show m_u_give [.tup [.str (bw b), eT l, eT r], eV o, .ref Kd] h = _
    unfold m_u_give b_u_give
    clear same
    walk_at "pm"
theorem give_len (kn : Kn) (t : Tm) (o : Option Str) : (give kn t o).length ≤ kn.length + 1 := by
  unfold give
  split
  · split <;> simp
  · omega
theorem learn_ok {s : Stp} {h : HP} {Kd : Nat} {kn : Kn} (e : h[Kd]? = some (.dic (eK kn))) (hl : kn.length ≤ 1000) : ∃ h', m_u_learn [eP s, .ref Kd] h = .ok .non h' ∧ Fr Kd h h' ∧ h'[Kd]? = some (.dic (eK (learn kn s))) := by
  cases s with
  | need k t w =>
    have g := give_ok (t := t) (o := some k) e (by omega)
    refine ⟨_, ?_, Fr.set _ _ _, List.getElem?_set_self (get_lt e)⟩
    have a0 := @at0 (.str "need") [.str k, eT t, .str w]
    have a1 := @at1 (.str "need") (.str k) [eT t, .str w]
    have a2 := @at2 (.str "need") (.str k) (eT t) [.str w]
    show m_u_learn [.tup [.str "need", .str k, eT t, .str w], .ref Kd] h = .ok .non (h.set Kd (.dic (eK (give kn t (some k)))))
    have g : m_u_give [eT t, .str k, .ref Kd] h = .ok .non (h.set Kd (.dic (eK (give kn t (some k))))) := g
    unfold m_u_learn b_u_learn
    generalize give kn t (some k) = gk at *
    generalize eT t = zt at *
    walk_at "pm"
  | alike l r =>
    have k1 := kind_ok (t := r) e
    have g1 := give_ok (t := l) (o := kd kn r) e (by omega)
    have e2 : (h.set Kd (.dic (eK (give kn l (kd kn r)))))[Kd]? = some (.dic (eK (give kn l (kd kn r)))) := List.getElem?_set_self (get_lt e)
    have k2 := kind_ok (t := l) e2
    have gl := give_len kn l (kd kn r)
    have g2 := give_ok (t := r) (o := kd (give kn l (kd kn r)) l) e2 (by omega)
    refine ⟨_, ?_, (Fr.set _ _ _).trans (Fr.set _ _ _), List.getElem?_set_self (get_lt e2)⟩
    have a0 := @at0 (.str "alike") [eT l, eT r]
    show m_u_learn [.tup [.str "alike", eT l, eT r], .ref Kd] h = .ok .non ((h.set Kd (.dic (eK (give kn l (kd kn r))))).set Kd (.dic (eK (give (give kn l (kd kn r)) r (kd (give kn l (kd kn r)) l)))))
    unfold m_u_learn b_u_learn
    generalize give (give kn l (kd kn r)) r (kd (give kn l (kd kn r)) l) = gg at *
    generalize kd (give kn l (kd kn r)) l = kk at *
    generalize give kn l (kd kn r) = g at *
    generalize kd kn r = k at *
    generalize eT l = zl at *
    generalize eT r = zr at *
    clear e2 gl
    walk_at "pm"
  | bound x =>
    refine ⟨h, ?_, Fr.refl _ _, e⟩
    have a0 := @at0 (.str "bound") [.tup [.str "name", .str x]]
    show m_u_learn [.tup [.str "bound", .tup [.str "name", .str x]], .ref Kd] h = .ok .non h
    unfold m_u_learn b_u_learn
    walk_at "pm"
end K13
end
section
set_option Elab.async false
set_option linter.all false
set_option maxRecDepth 100000
set_option maxHeartbeats 4000000
namespace K13
open PySem L2 PM
local macro_rules | `(tactic| walk_at "pm") => `(tactic| simp (config := { decide := true }) only [bind_ok, toS_ok, seq_nx, seq_rt, seq_bk, seq_ct, seq_exc, bind_exc, toS_exc, mSeq_ap, mNext_ap, mSet_ap, kSet_ap, mAsg_ap, kAsg_ap, ofS_some, gN_ap, gTup_ap, gCons_ap, gNil_ap, mDrop_ap, kDrop_ap, mRet_ap, mRetN_ap, mIfS_ap, kIf_t, kIf_f, mBreak_ap, mCont_ap, mBad_ap, mAug_ap, kAug_ap, mVar_ap, mC_ap, m1_ap, k1_ap, m2_ap, k2_ap, k2'_ap, ofO_some, mNil_ap, mCons_ap, kC_ap, kC'_ap, mCall_ap, mB_ap, kB_ap, mMeth_ap, kM_ap, kM'_ap, mTest_ap, kBl_ap, mNot_ap, kNot_ap, mAnd_ap, kAnd_t, kAnd_f, mOr_ap, kOr_t, kOr_f, mIfE_ap, kIfE_t, kIfE_f, mAndV_ap, kAndV_t, kAndV_f, mOrV_ap, kOrV_t, kOrV_f, mNotV_ap, kNotV_ap, mTup_ap, kTup_ap, mLst_ap, kLst_ap, mNoPart_ap, mPart_ap, kInt_ap, mSl_ap, kSl1_ap, kSl2_ap, kSl3_ap, mChain_ap, kCh0_ap, kCh1_ap, kCh2_t, kCh2_f, kCh3_ap, mPutD_ap, kP1_ap, kP2_ap, kP3_ap, runDef_ap, fin_nx, fin_rt, fin_exc, mYes_ap, add_ii, iadd_ii, add_ss, sub_ii, mul_ii, mul_si, mod_ii, fdiv_ii, pow_ii, neg_i, ord_ii, ord_ss, eq_ii, ne_ii, eq_ss, ne_ss, is_non, isn_non, int_i, len_s, len_t, min_ii, sl_s, in_c, nin_c, split_s, str1_ss, find4_s, ty_str, ord_c, iR1_ap, itR1_i, iS_ap, itS_s, iT_ap, itT_t, iE_ap, oD_some, len_r, oLen_l, oLen_r, oKey_s, it_ref, itH_r, itH_t, itH_s, oIH_d, oIH_l, oIH_r, tupF_r, oTupF_l, mTupF_ap, kTupF_ap, seq_t, seq_s, seq_r, oSeq_l, mStar_ap, kSt_ap, kSt1_s, kSt2_ap, lst_d, oLst_s, mTupRev_ap, kRev_t, kRev_s, len_st, min_l, oTy_t, oTy_d, isi_i, isi_s, mIdx_ap, kIx_s, kIxs_ap, kIx1_s, iA_ap, itA_t, itA_s, oItem_d, oItem_l, oItem_r, it_tup, oC_some, it_str, keyD_s, keyD_i, app_r, oApp_l, ext_r, oExt_l, ty_ref, oTy_l, isi_ref, oIsi_l, put_ref, oPut_d, oPutK_s, oBls_s, all_r, oAll_l, tup_r, oTup_l, itE_r, oEnum_l, slT_t, addL_r, oCat_l, lenQ_r, oLenQ_d, isiT_t, isiT_i, isiT_s, isiT_n, mInK_ap, kInK_s, mAtK_ap, kAtK_s, kAtK1_s, mPar_ap, kPar_ap, mPutJ_ap, kJ1_ap, kJ2_ap, mRaise_ap, kRaise_1, get1_r, List.map_cons, List.map_nil, List.length_cons, List.length_nil, List.replicate, List.cons_append, List.nil_append, List.set_cons_zero, List.set_cons_succ, List.getElem?_cons_zero, List.getElem?_cons_succ, Nat.reduceSub, Nat.reduceAdd, Nat.reduceLeDiff, Nat.reduceLT,  cond_true, cond_false, if_true, if_false, ite_true, ite_false, Bool.false_eq_true, reduceIte, Nat.zero_add, Option.bind_some, ne_eq, Int.reduceEq, not_false_eq_true, not_true_eq_false, decide_true, decide_false, Bool.not_true, Bool.not_false, *])

/-! the law's kinds -/
theorem ti_t (h : HP) : toIntG [.bl true] h = some (.int 1, h) := rfl
theorem ti_f (h : HP) : toIntG [.bl false] h = some (.int 0, h) := rfl
theorem lkind_ok {t : Tm} {h : HP} {Kd : Nat} {kn : Kn} (e : h[Kd]? = some (.dic (eK kn))) : ∃ h', m_u_law_kind [.ref Kd, eT t] h = .ok (eV (kd kn t)) h' ∧ X0 h h' := by
  have tt := ti_t
  have tf := ti_f
  have g : (h ++ [Ob.lst [.str "number", .str "word"]])[h.length]? = some (.lst [.str "number", .str "word"]) := last_get
  have b0 := @at0 (.str "number") [.str "word"]
  have b1 := @at1 (.str "number") (.str "word") []
  have x0 : X0 h (h ++ [Ob.lst [.str "number", .str "word"]]) := X0.app _ _
  cases t with
  | nm x =>
    have a0 := @at0 (.str "name") [.str x]
    have a1 := @at1 (.str "name") (.str x) []
    have lk : lookD (some (.dic (eK kn))) (.str x) = some (getK (eK kn) (.inr x)) := rfl
    have og := oget_eK (kn := kn) (x := x) (h := h)
    refine ⟨h, ?_, X0.refl _⟩
    show m_u_law_kind [.ref Kd, .tup [.str "name", .str x]] h = .ok (eV (kn.lookup x)) h
    unfold m_u_law_kind b_u_law_kind
    clear x0
    walk_at "pm"
  | num i =>
    have a0 := @at0 (.str "num") [.int i]
    refine ⟨_, ?_, x0⟩
    show m_u_law_kind [.ref Kd, .tup [.str "num", .int i]] h = .ok (.str "number") (h ++ [Ob.lst [.str "number", .str "word"]])
    unfold m_u_law_kind b_u_law_kind
    clear x0
    walk_at "pm"
  | txt z =>
    have a0 := @at0 (.str "text") [.str z]
    refine ⟨_, ?_, x0⟩
    show m_u_law_kind [.ref Kd, .tup [.str "text", .str z]] h = .ok (.str "word") (h ++ [Ob.lst [.str "number", .str "word"]])
    unfold m_u_law_kind b_u_law_kind
    clear x0
    walk_at "pm"
  | bin b l r =>
    have a0 := @at0 (.str (bw b)) [eT l, eT r]
    have c1 : (bw b = "name") = False := by cases b <;> (simp [bw]; decide)
    have c2 : (bw b = "text") = False := by cases b <;> (simp [bw]; decide)
    refine ⟨_, ?_, x0⟩
    show m_u_law_kind [.ref Kd, .tup [.str (bw b), eT l, eT r]] h = .ok (.str "number") (h ++ [Ob.lst [.str "number", .str "word"]])
    unfold m_u_law_kind b_u_law_kind
    clear x0
    walk_at "pm"
theorem nin_d {h : HP} {Kd : Nat} {kn : Kn} {x : Str} (e : h[Kd]? = some (.dic (eK kn))) : inH true (.str x) (.ref Kd) h = some (.bl (kn.lookup x).isNone, h) := by
  have ic : inC (.str x) (.ref Kd) h = some (getK (eK kn) (.inr x)).isSome := by
    unfold inC
    dsimp only
    rw [e]
    rfl
  unfold inH
  rw [ic, getK_eK]
  cases kn.lookup x <;> rfl
theorem llearn_ok {t : Tm} {o : Option Str} {h : HP} {Kd : Nat} {kn : Kn} (e : h[Kd]? = some (.dic (eK kn))) (hl : kn.length < 1000000) : m_u_law_learn [.ref Kd, eT t, eV o] h = .ok .non (h.set Kd (.dic (eK (give kn t o)))) := by
  have same : ∀ t' o', give kn t' o' = kn → h.set Kd (.dic (eK (give kn t' o'))) = h := fun t' o' g => by rw [g]; exact set_same e
  cases t with
  | nm x =>
    have a0 := @at0 (.str "name") [.str x]
    have a1 := @at1 (.str "name") (.str x) []
    cases o with
    | none =>
      rw [same _ _ rfl]
      have nn : PM.isNon (eV none) = true := rfl
      show m_u_law_learn [.ref Kd, .tup [.str "name", .str x], eV none] h = _
      unfold m_u_law_learn b_u_law_learn
      clear same
      walk_at "pm"
    | some v =>
      have ni := nin_d (x := x) e
      have nn : PM.isNon (.str v) = false := rfl
      cases q : kn.lookup x with
      | some w =>
        have gv : give kn (.nm x) (some v) = kn := by unfold give; dsimp only; rw [q]
        rw [same _ _ gv]
        rw [q] at ni
        have z : (Option.isNone (some w)) = false := rfl
        show m_u_law_learn [.ref Kd, .tup [.str "name", .str x], .str v] h = _
        unfold m_u_law_learn b_u_law_learn
        clear same q gv
        walk_at "pm"
      | none =>
        have gv : give kn (.nm x) (some v) = kn ++ [(x, v)] := by unfold give; dsimp only; rw [q]
        rw [gv]
        rw [q] at ni
        have z : (Option.isNone (none : Option Str)) = true := rfl
        have sk := setK_eK (v := v) q
        have hl' : (eK kn).length < 1000000 := by rw [eK_len]; exact hl
        have ks := ki_s x
        show m_u_law_learn [.ref Kd, .tup [.str "name", .str x], .str v] h = _
        unfold m_u_law_learn b_u_law_learn
        clear same q gv
        walk_at "pm"
  | num i =>
    rw [same _ _ (by cases o <;> rfl)]
    have a0 := @at0 (.str "num") [.int i]
    show m_u_law_learn [.ref Kd, .tup [.str "num", .int i], eV o] h = _
    unfold m_u_law_learn b_u_law_learn
    clear same
    walk_at "pm"
  | txt i =>
    rw [same _ _ (by cases o <;> rfl)]
    have a0 := @at0 (.str "text") [.str i]
    show m_u_law_learn [.ref Kd, .tup [.str "text", .str i], eV o] h = _
    unfold m_u_law_learn b_u_law_learn
    clear same
    walk_at "pm"
  | bin b l r =>
    rw [same _ _ (by cases o <;> rfl)]
    have a0 := @at0 (.str (bw b)) [eT l, eT r]
    have b1 : (bw b = "name") = False := by cases b <;> (simp [bw]; decide)
    show m_u_law_learn [.ref Kd, .tup [.str (bw b), eT l, eT r], eV o] h = _
    unfold m_u_law_learn b_u_law_learn
    clear same
    walk_at "pm"
/-! what is wrong -/
def wrN (o : Option Str) (k w : Str) : Option Str := match o with
  | some k' => if k' = k then none else some w
  | none => none
def wrA (a b : Option Str) : Option Str := match a, b with
  | some a, some b => if a = b then none else some "="
  | _, _ => none
def wrong (kn : Kn) : Stp → Option Str
  | .need k t w => wrN (kd kn t) k w
  | .alike l r => wrA (kd kn l) (kd kn r)
  | .bound _ => none
def shS : Stp → Prop
  | .need _ _ w => w.length ≤ 1000
  | _ => True
theorem nin_t (o : Option Str) (k : Str) (h : HP) : inH true (eV o) (.tup [.str k, .non]) h = some (.bl (match o with | some k' => !decide (k' = k) | none => false), h) := by
  cases o with
  | none => rfl
  | some k' =>
    have iv : inC (.str k') (.tup [.str k, .non]) h = some (inV (.str k') [.str k, .non]) := rfl
    have e : inV (.str k') [.str k, .non] = decide (k' = k) := by
      show ((k == k') || (false || false)) = decide (k' = k)
      by_cases c : k' = k
      · subst c; simp
      · have c2 : ¬ (k = k') := fun z => c z.symm
        simp [c, c2]
    unfold inH
    show (inC (.str k') (.tup [.str k, .non]) h).map _ = _
    rw [iv, e]
    rfl
def resW (o : Option Str) (h : HP) : R D := match o with
  | none => .ok .non h
  | some w => .exc "WrongKind" [("word", .str w)] h
theorem check_ok {s : Stp} {h : HP} {Kd : Nat} {kn : Kn} (e : h[Kd]? = some (.dic (eK kn))) (sh : shS s) : m_u_check [eP s, .ref Kd] h = resW (wrong kn s) h := by
  cases s with
  | need k t w =>
    have sh : w.length ≤ 1000 := sh
    have k1 := kind_ok (t := t) e
    have ni := nin_t (kd kn t) k h
    have a0 := @at0 (.str "need") [.str k, eT t, .str w]
    show m_u_check [.tup [.str "need", .str k, eT t, .str w], .ref Kd] h = resW (wrN (kd kn t) k w) h
    unfold m_u_check b_u_check
    generalize kd kn t = o at *
    generalize eT t = zt at *
    cases o with
    | none =>
      dsimp only at ni
      show _ = R.ok D.non h
      walk_at "pm"
    | some k' =>
      dsimp only at ni
      by_cases c : k' = k
      · have q : wrN (some k') k w = none := if_pos c
        rw [q, decide_eq_true c] at *
        show _ = R.ok D.non h
        clear c q
        walk_at "pm"
      · have q : wrN (some k') k w = some w := if_neg c
        rw [q, decide_eq_false c] at *
        show _ = R.exc "WrongKind" [("word", .str w)] h
        clear c q
        walk_at "pm"
  | alike l r =>
    have k1 := kind_ok (t := l) e
    have k2 := kind_ok (t := r) e
    have a0 := @at0 (.str "alike") [eT l, eT r]
    have a1 := @at1 (.str "alike") (eT l) [eT r]
    have a2 := @at2 (.str "alike") (eT l) (eT r) []
    have n1 := nn_o (kd kn l)
    have n2 := nn_o (kd kn r)
    have l1 : (("=" : Str)).length ≤ 1000 := by decide
    show m_u_check [.tup [.str "alike", eT l, eT r], .ref Kd] h = resW (wrA (kd kn l) (kd kn r)) h
    unfold m_u_check b_u_check
    generalize kd kn l = o1 at *
    generalize kd kn r = o2 at *
    generalize eT l = zl at *
    generalize eT r = zr at *
    cases o1 with
    | none =>
      show _ = R.ok D.non h
      have z : (Option.isNone (none : Option Str)) = true := rfl
      walk_at "pm"
    | some a =>
      have z : (Option.isNone (some a)) = false := rfl
      cases o2 with
      | none =>
        show _ = R.ok D.non h
        have z2 : (Option.isNone (none : Option Str)) = true := rfl
        walk_at "pm"
      | some b =>
        have z2 : (Option.isNone (some b)) = false := rfl
        have va : eV (some a) = .str a := rfl
        have vb : eV (some b) = .str b := rfl
        rw [va] at k1 n1
        rw [vb] at k2 n2
        by_cases c : a = b
        · have q : wrA (some a) (some b) = none := if_pos c
          rw [q]
          show _ = R.ok D.non h
          have c' := eq_true c
          clear c va vb q
          walk_at "pm"
        · have q : wrA (some a) (some b) = some "=" := if_neg c
          rw [q]
          show _ = R.exc "WrongKind" [("word", .str "=")] h
          have c' := eq_false c
          clear c va vb q
          walk_at "pm"
  | bound x =>
    have a0 := @at0 (.str "bound") [.tup [.str "name", .str x]]
    show m_u_check [.tup [.str "bound", .tup [.str "name", .str x]], .ref Kd] h = .ok .non h
    unfold m_u_check b_u_check
    walk_at "pm"
end K13
end
section
set_option Elab.async false
set_option linter.all false
set_option maxRecDepth 100000
set_option maxHeartbeats 4000000
namespace K13
open PySem L2 PM
local macro_rules | `(tactic| walk_at "pm") => `(tactic| simp (config := { decide := true }) only [bind_ok, toS_ok, seq_nx, seq_rt, seq_bk, seq_ct, seq_exc, bind_exc, toS_exc, mSeq_ap, mNext_ap, mSet_ap, kSet_ap, mAsg_ap, kAsg_ap, ofS_some, gN_ap, gTup_ap, gCons_ap, gNil_ap, mDrop_ap, kDrop_ap, mRet_ap, mRetN_ap, mIfS_ap, kIf_t, kIf_f, mBreak_ap, mCont_ap, mBad_ap, mAug_ap, kAug_ap, mVar_ap, mC_ap, m1_ap, k1_ap, m2_ap, k2_ap, k2'_ap, ofO_some, mNil_ap, mCons_ap, kC_ap, kC'_ap, mCall_ap, mB_ap, kB_ap, mMeth_ap, kM_ap, kM'_ap, mTest_ap, kBl_ap, mNot_ap, kNot_ap, mAnd_ap, kAnd_t, kAnd_f, mOr_ap, kOr_t, kOr_f, mIfE_ap, kIfE_t, kIfE_f, mAndV_ap, kAndV_t, kAndV_f, mOrV_ap, kOrV_t, kOrV_f, mNotV_ap, kNotV_ap, mTup_ap, kTup_ap, mLst_ap, kLst_ap, mNoPart_ap, mPart_ap, kInt_ap, mSl_ap, kSl1_ap, kSl2_ap, kSl3_ap, mChain_ap, kCh0_ap, kCh1_ap, kCh2_t, kCh2_f, kCh3_ap, mPutD_ap, kP1_ap, kP2_ap, kP3_ap, runDef_ap, fin_nx, fin_rt, fin_exc, mYes_ap, add_ii, iadd_ii, add_ss, sub_ii, mul_ii, mul_si, mod_ii, fdiv_ii, pow_ii, neg_i, ord_ii, ord_ss, eq_ii, ne_ii, eq_ss, ne_ss, is_non, isn_non, int_i, len_s, len_t, min_ii, sl_s, in_c, nin_c, split_s, str1_ss, find4_s, ty_str, ord_c, iR1_ap, itR1_i, iS_ap, itS_s, iT_ap, itT_t, iE_ap, oD_some, len_r, oLen_l, oLen_r, oKey_s, it_ref, itH_r, itH_t, itH_s, oIH_d, oIH_l, oIH_r, tupF_r, oTupF_l, mTupF_ap, kTupF_ap, seq_t, seq_s, seq_r, oSeq_l, mStar_ap, kSt_ap, kSt1_s, kSt2_ap, lst_d, oLst_s, mTupRev_ap, kRev_t, kRev_s, len_st, min_l, oTy_t, oTy_d, isi_i, isi_s, mIdx_ap, kIx_s, kIxs_ap, kIx1_s, iA_ap, itA_t, itA_s, oItem_d, oItem_l, oItem_r, it_tup, oC_some, it_str, keyD_s, keyD_i, app_r, oApp_l, ext_r, oExt_l, ty_ref, oTy_l, isi_ref, oIsi_l, put_ref, oPut_d, oPutK_s, oBls_s, all_r, oAll_l, tup_r, oTup_l, itE_r, oEnum_l, slT_t, addL_r, oCat_l, lenQ_r, oLenQ_d, isiT_t, isiT_i, isiT_s, isiT_n, mInK_ap, kInK_s, mAtK_ap, kAtK_s, kAtK1_s, mPar_ap, kPar_ap, mPutJ_ap, kJ1_ap, kJ2_ap, mRaise_ap, kRaise_1, get1_r, List.map_cons, List.map_nil, List.length_cons, List.length_nil, List.replicate, List.cons_append, List.nil_append, List.set_cons_zero, List.set_cons_succ, List.getElem?_cons_zero, List.getElem?_cons_succ, Nat.reduceSub, Nat.reduceAdd, Nat.reduceLeDiff, Nat.reduceLT,  cond_true, cond_false, if_true, if_false, ite_true, ite_false, Bool.false_eq_true, reduceIte, Nat.zero_add, Option.bind_some, ne_eq, Int.reduceEq, not_false_eq_true, not_true_eq_false, decide_true, decide_false, Bool.not_true, Bool.not_false, *])

def NM : List Str := ["x", "y.4", "z", "u", "v.7", "s.1", "t"]
theorem nm_ok : ∀ x ∈ NM, (x.length ≤ 1000 ∧ (Txt.partition x ".").1.length ≤ 1000) ∧ (Txt.split x ".").head? = some (Txt.partition x ".").1 := by
  intro x hx
  unfold NM at hx
  simp only [List.mem_cons, List.not_mem_nil, or_false] at hx
  rcases hx with rfl | rfl | rfl | rfl | rfl | rfl | rfl <;> decide +kernel
def u1 (kn : Kn) : Tm → Option Str
  | .nm x => if (kn.lookup x).isNone then some x else none
  | _ => none
def unk (kn : Kn) : Stp → Option Str
  | .need _ _ _ => none
  | .alike l r => (u1 kn l).or (u1 kn r)
  | .bound x => u1 kn (.nm x)
def nT1 : Tm → Prop
  | .nm x => x ∈ NM
  | _ => True
def nS : Stp → Prop
  | .need _ t _ => nT1 t
  | .alike l r => nT1 l ∧ nT1 r
  | .bound x => x ∈ NM
theorem u1_nm {kn : Kn} {x : Str} : u1 kn (.nm x) = if (kn.lookup x).isNone then some x else none := rfl
theorem u1_none {kn : Kn} {t : Tm} (h : kd kn t ≠ none) : u1 kn t = none := by
  cases t with
  | nm x =>
    have h : kn.lookup x ≠ none := h
    rw [u1_nm]
    cases q : kn.lookup x with
    | none => exact absurd q h
    | some v => rfl
  | _ => rfl
theorem u1_some {kn : Kn} {t : Tm} (h : kd kn t = none) : ∃ x, t = .nm x ∧ u1 kn t = some x := by
  cases t with
  | nm x =>
    have h : kn.lookup x = none := h
    exact ⟨x, rfl, by rw [u1_nm, h]; rfl⟩
  | num _ => cases h
  | txt _ => cases h
  | bin _ _ _ => cases h
def noE (x : Str) : List (Str × D) := [("word", .str (Txt.partition x ".").1)]
theorem unk_step {t : Tm} {h : HP} {Kd : Nat} {kn : Kn} {x0 : Option D} (e : h[Kd]? = some (.dic (eK kn))) (nt : nT1 t) :
    (u1 kn t = none → L_u_check_known_1 [x0, some (.ref Kd), some (eT t)] h = .nx [x0, some (.ref Kd), some (eT t)] h) ∧ ∀ x, u1 kn t = some x → L_u_check_known_1 [x0, some (.ref Kd), some (eT t)] h = .exc [x0, some (.ref Kd), some (eT t)] "NoKind" (noE x) h := by
  have k1 := kind_ok (t := t) e
  have nn := nn_o (kd kn t)
  constructor
  · intro u
    have ne : kd kn t ≠ none := fun z => by
      obtain ⟨x, _, q⟩ := u1_some z
      rw [q] at u; cases u
    cases q : kd kn t with
    | none => exact absurd q ne
    | some v =>
      rw [q] at k1 nn
      have z : (Option.isNone (some v)) = false := rfl
      unfold L_u_check_known_1
      generalize eT t = zt at *
      clear q ne u
      walk_at "pm"
  · intro x u
    have hx : t = .nm x ∧ kd kn t = none := by
      cases t with
      | nm y =>
        rw [u1_nm] at u
        cases q : kn.lookup y with
        | some v => rw [q] at u; cases u
        | none => rw [q] at u; cases u; exact ⟨rfl, q⟩
      | _ => cases u
    obtain ⟨rfl, q⟩ := hx
    rw [q] at k1 nn
    have z : (Option.isNone (none : Option Str)) = true := rfl
    obtain ⟨⟨l1, l2⟩, _⟩ := nm_ok x nt
    have pg : partG (.str x) [.str "."] h = some (.tup [.str (Txt.partition x ".").1, .str (Txt.partition x ".").2.1, .str (Txt.partition x ".").2.2], h) := by
      unfold partG
      dsimp only
      rw [if_pos ⟨by decide +kernel, by omega⟩]
    have a1 := @at1 (.str "name") (.str x) []
    have a0 := @at0 (.str (Txt.partition x ".").1) [.str (Txt.partition x ".").2.1, .str (Txt.partition x ".").2.2]
    have k1 : m_u_kind [.tup [.str "name", .str x], .ref Kd] h = .ok (eV none) h := k1
    show L_u_check_known_1 [x0, some (.ref Kd), some (.tup [.str "name", .str x])] h = .exc [x0, some (.ref Kd), some (.tup [.str "name", .str x])] "NoKind" (noE x) h
    unfold L_u_check_known_1 noE
    generalize (Txt.partition x ".").2.1 = p2 at *
    generalize (Txt.partition x ".").2.2 = p3 at *
    generalize (Txt.partition x ".").1 = p1 at *
    clear u q nt
    walk_at "pm"
def resN (o : Option Str) (h : HP) : R D := match o with
  | none => .ok .non h
  | some x => .exc "NoKind" (noE x) h
theorem known_ok {s : Stp} {h : HP} {Kd : Nat} {kn : Kn} (e : h[Kd]? = some (.dic (eK kn))) (ns : nS s) : m_u_check_known [eP s, .ref Kd] h = resN (unk kn s) h := by
  cases s with
  | need k t w =>
    have a0 := @at0 (.str "need") [.str k, eT t, .str w]
    show m_u_check_known [.tup [.str "need", .str k, eT t, .str w], .ref Kd] h = .ok .non h
    unfold m_u_check_known b_u_check_known
    walk_at "pm"
  | alike l r =>
    have a0 := @at0 (.str "alike") [eT l, eT r]
    obtain ⟨p1, p2⟩ := unk_step (x0 := some (.tup [.str "alike", eT l, eT r])) e ns.1
    obtain ⟨q1, q2⟩ := unk_step (x0 := some (.tup [.str "alike", eT l, eT r])) e ns.2
    have ei : iA (mSl slT (mVar 0) (mPart (mC (.int 1))) mNoPart) [some (.tup [.str "alike", eT l, eT r]), some (.ref Kd), none] h = .ok ([eT l, eT r], fun _ => True) h := rfl
    show m_u_check_known [.tup [.str "alike", eT l, eT r], .ref Kd] h = resN ((u1 kn l).or (u1 kn r)) h
    unfold m_u_check_known b_u_check_known
    rw [runDef_ap]
    show fin (mIfS _ _ _ [some (.tup [.str "alike", eT l, eT r]), some (.ref Kd), none] h) = _
    have mi : ∀ p q : MS, mIfS (mTest (m2 (eqG true) (m2 itemH (mVar 0) (mC (.int 0))) (mC (.str "need")))) p q [some (.tup [.str "alike", eT l, eT r]), some (.ref Kd), none] h = p [some (.tup [.str "alike", eT l, eT r]), some (.ref Kd), none] h := fun p q => by
      clear p1 p2 q1 q2 ei
      walk_at "pm"
    rw [mi, mFor_ok ei]
    cases ul : u1 kn l with
    | some x =>
      rw [mLoop_exc trivial rfl (p2 x ul)]
      rfl
    | none =>
      rw [mLoop_nx trivial rfl (.inl (p1 ul))]
      cases ur : u1 kn r with
      | some x =>
        rw [mLoop_exc trivial rfl (q2 x ur)]
        rfl
      | none =>
        rw [mLoop_nx trivial rfl (.inl (q1 ur)), mLoop_nil trivial]
        rfl
  | bound x =>
    have a0 := @at0 (.str "bound") [.tup [.str "name", .str x]]
    obtain ⟨p1, p2⟩ := unk_step (t := .nm x) (x0 := some (.tup [.str "bound", .tup [.str "name", .str x]])) e ns
    have ei : iA (mSl slT (mVar 0) (mPart (mC (.int 1))) mNoPart) [some (.tup [.str "bound", .tup [.str "name", .str x]]), some (.ref Kd), none] h = .ok ([eT (.nm x)], fun _ => True) h := rfl
    show m_u_check_known [.tup [.str "bound", .tup [.str "name", .str x]], .ref Kd] h = resN (u1 kn (.nm x)) h
    unfold m_u_check_known b_u_check_known
    rw [runDef_ap]
    show fin (mIfS _ _ _ [some (.tup [.str "bound", .tup [.str "name", .str x]]), some (.ref Kd), none] h) = _
    have mi : ∀ p q : MS, mIfS (mTest (m2 (eqG true) (m2 itemH (mVar 0) (mC (.int 0))) (mC (.str "need")))) p q [some (.tup [.str "bound", .tup [.str "name", .str x]]), some (.ref Kd), none] h = p [some (.tup [.str "bound", .tup [.str "name", .str x]]), some (.ref Kd), none] h := fun p q => by
      clear p1 p2 ei
      walk_at "pm"
    rw [mi, mFor_ok ei]
    cases ul : u1 kn (.nm x) with
    | some x' =>
      rw [mLoop_exc trivial rfl (p2 x' ul)]
      rfl
    | none =>
      rw [mLoop_nx trivial rfl (.inl (p1 ul)), mLoop_nil trivial]
      rfl
/-! loops over steps -/
theorem chk_loop {S Kd : Nat} {L : List D} {kn : Kn} {h : HP} {x0 x1 x2 x4 : Option D} (eS : h[S]? = some (.lst L)) (e : h[Kd]? = some (.dic (eK kn))) : ∀ {ss : List Stp} {x5 : Option D}, (∀ s ∈ ss, shS s) →
    (ss.findSome? (wrong kn) = none → ∃ y5, mLoop (fun h => h[S]? = some (.lst L)) (gN 5) L_kinds_of_3 (ss.map eP) [x0, x1, x2, some (.ref Kd), x4, x5] h = .nx [x0, x1, x2, some (.ref Kd), x4, y5] h) ∧
    ∀ w, ss.findSome? (wrong kn) = some w → ∃ s2, mLoop (fun h => h[S]? = some (.lst L)) (gN 5) L_kinds_of_3 (ss.map eP) [x0, x1, x2, some (.ref Kd), x4, x5] h = .exc s2 "WrongKind" [("word", .str w)] h
  | [], x5, _ => ⟨fun _ => ⟨x5, mLoop_nil eS⟩, fun w h => by cases h⟩
  | s :: ss, x5, sh => by
    have ck := check_ok e (sh s List.mem_cons_self)
    obtain ⟨i1, i2⟩ := chk_loop eS e (ss := ss) (x5 := some (eP s)) (x0 := x0) (x1 := x1) (x2 := x2) (x4 := x4) (fun s hs => sh s (List.mem_cons_of_mem _ hs))
    rw [List.findSome?_cons]
    cases q : wrong kn s with
    | some w0 =>
      rw [q] at ck
      change m_u_check [eP s, .ref Kd] h = R.exc "WrongKind" [("word", .str w0)] h at ck
      have st : L_kinds_of_3 [x0, x1, x2, some (.ref Kd), x4, some (eP s)] h = .exc [x0, x1, x2, some (.ref Kd), x4, some (eP s)] "WrongKind" [("word", .str w0)] h := by
        unfold L_kinds_of_3
        generalize eP s = z at *
        clear i1 i2
        walk_at "pm"
      refine ⟨fun h => by simp at h, fun w hw => ?_⟩
      simp at hw
      subst hw
      exact ⟨_, mLoop_exc eS rfl st⟩
    | none =>
      rw [q] at ck
      change m_u_check [eP s, .ref Kd] h = R.ok .non h at ck
      have st : L_kinds_of_3 [x0, x1, x2, some (.ref Kd), x4, some (eP s)] h = .nx [x0, x1, x2, some (.ref Kd), x4, some (eP s)] h := by
        unfold L_kinds_of_3
        generalize eP s = z at *
        clear i1 i2
        walk_at "pm"
      refine ⟨fun h => ?_, fun w hw => ?_⟩
      · obtain ⟨y5, e5⟩ := i1 h
        exact ⟨y5, (mLoop_nx eS rfl (.inl st)).trans e5⟩
      · obtain ⟨s2, e5⟩ := i2 w hw
        exact ⟨s2, (mLoop_nx eS rfl (.inl st)).trans e5⟩
theorem kno_loop {S Kd : Nat} {L : List D} {kn : Kn} {h : HP} {x0 x1 x2 x4 : Option D} (eS : h[S]? = some (.lst L)) (e : h[Kd]? = some (.dic (eK kn))) : ∀ {ss : List Stp} {x5 : Option D}, (∀ s ∈ ss, nS s) →
    (ss.findSome? (unk kn) = none → ∃ y5, mLoop (fun h => h[S]? = some (.lst L)) (gN 5) L_kinds_of_4 (ss.map eP) [x0, x1, x2, some (.ref Kd), x4, x5] h = .nx [x0, x1, x2, some (.ref Kd), x4, y5] h) ∧
    ∀ w, ss.findSome? (unk kn) = some w → ∃ s2, mLoop (fun h => h[S]? = some (.lst L)) (gN 5) L_kinds_of_4 (ss.map eP) [x0, x1, x2, some (.ref Kd), x4, x5] h = .exc s2 "NoKind" (noE w) h
  | [], x5, _ => ⟨fun _ => ⟨x5, mLoop_nil eS⟩, fun w h => by cases h⟩
  | s :: ss, x5, sh => by
    have ck := known_ok e (sh s List.mem_cons_self)
    obtain ⟨i1, i2⟩ := kno_loop eS e (ss := ss) (x5 := some (eP s)) (x0 := x0) (x1 := x1) (x2 := x2) (x4 := x4) (fun s hs => sh s (List.mem_cons_of_mem _ hs))
    rw [List.findSome?_cons]
    cases q : unk kn s with
    | some w0 =>
      rw [q] at ck
      change m_u_check_known [eP s, .ref Kd] h = R.exc "NoKind" (noE w0) h at ck
      have st : L_kinds_of_4 [x0, x1, x2, some (.ref Kd), x4, some (eP s)] h = .exc [x0, x1, x2, some (.ref Kd), x4, some (eP s)] "NoKind" (noE w0) h := by
        unfold L_kinds_of_4
        generalize eP s = z at *
        generalize noE w0 = ne at *
        clear i1 i2
        walk_at "pm"
      refine ⟨fun h => by simp at h, fun w hw => ?_⟩
      simp at hw
      subst hw
      exact ⟨_, mLoop_exc eS rfl st⟩
    | none =>
      rw [q] at ck
      change m_u_check_known [eP s, .ref Kd] h = R.ok .non h at ck
      have st : L_kinds_of_4 [x0, x1, x2, some (.ref Kd), x4, some (eP s)] h = .nx [x0, x1, x2, some (.ref Kd), x4, some (eP s)] h := by
        unfold L_kinds_of_4
        generalize eP s = z at *
        clear i1 i2
        walk_at "pm"
      refine ⟨fun h => ?_, fun w hw => ?_⟩
      · obtain ⟨y5, e5⟩ := i1 h
        exact ⟨y5, (mLoop_nx eS rfl (.inl st)).trans e5⟩
      · obtain ⟨s2, e5⟩ := i2 w hw
        exact ⟨s2, (mLoop_nx eS rfl (.inl st)).trans e5⟩
end K13
end
section
set_option Elab.async false
set_option linter.all false
set_option maxRecDepth 100000
set_option maxHeartbeats 4000000
namespace K13
open PySem L2 PM
local macro_rules | `(tactic| walk_at "pm") => `(tactic| simp (config := { decide := true }) only [bind_ok, toS_ok, seq_nx, seq_rt, seq_bk, seq_ct, seq_exc, bind_exc, toS_exc, mSeq_ap, mNext_ap, mSet_ap, kSet_ap, mAsg_ap, kAsg_ap, ofS_some, gN_ap, gTup_ap, gCons_ap, gNil_ap, mDrop_ap, kDrop_ap, mRet_ap, mRetN_ap, mIfS_ap, kIf_t, kIf_f, mBreak_ap, mCont_ap, mBad_ap, mAug_ap, kAug_ap, mVar_ap, mC_ap, m1_ap, k1_ap, m2_ap, k2_ap, k2'_ap, ofO_some, mNil_ap, mCons_ap, kC_ap, kC'_ap, mCall_ap, mB_ap, kB_ap, mMeth_ap, kM_ap, kM'_ap, mTest_ap, kBl_ap, mNot_ap, kNot_ap, mAnd_ap, kAnd_t, kAnd_f, mOr_ap, kOr_t, kOr_f, mIfE_ap, kIfE_t, kIfE_f, mAndV_ap, kAndV_t, kAndV_f, mOrV_ap, kOrV_t, kOrV_f, mNotV_ap, kNotV_ap, mTup_ap, kTup_ap, mLst_ap, kLst_ap, mNoPart_ap, mPart_ap, kInt_ap, mSl_ap, kSl1_ap, kSl2_ap, kSl3_ap, mChain_ap, kCh0_ap, kCh1_ap, kCh2_t, kCh2_f, kCh3_ap, mPutD_ap, kP1_ap, kP2_ap, kP3_ap, runDef_ap, fin_nx, fin_rt, fin_exc, mYes_ap, add_ii, iadd_ii, add_ss, sub_ii, mul_ii, mul_si, mod_ii, fdiv_ii, pow_ii, neg_i, ord_ii, ord_ss, eq_ii, ne_ii, eq_ss, ne_ss, is_non, isn_non, int_i, len_s, len_t, min_ii, sl_s, in_c, nin_c, split_s, str1_ss, find4_s, ty_str, ord_c, iR1_ap, itR1_i, iS_ap, itS_s, iT_ap, itT_t, iE_ap, oD_some, len_r, oLen_l, oLen_r, oKey_s, it_ref, itH_r, itH_t, itH_s, oIH_d, oIH_l, oIH_r, tupF_r, oTupF_l, mTupF_ap, kTupF_ap, seq_t, seq_s, seq_r, oSeq_l, mStar_ap, kSt_ap, kSt1_s, kSt2_ap, lst_d, oLst_s, mTupRev_ap, kRev_t, kRev_s, len_st, min_l, oTy_t, oTy_d, isi_i, isi_s, mIdx_ap, kIx_s, kIxs_ap, kIx1_s, iA_ap, itA_t, itA_s, oItem_d, oItem_l, oItem_r, it_tup, oC_some, it_str, keyD_s, keyD_i, app_r, oApp_l, ext_r, oExt_l, ty_ref, oTy_l, isi_ref, oIsi_l, put_ref, oPut_d, oPutK_s, oBls_s, all_r, oAll_l, tup_r, oTup_l, itE_r, oEnum_l, slT_t, addL_r, oCat_l, lenQ_r, oLenQ_d, isiT_t, isiT_i, isiT_s, isiT_n, mInK_ap, kInK_s, mAtK_ap, kAtK_s, kAtK1_s, mPar_ap, kPar_ap, mPutJ_ap, kJ1_ap, kJ2_ap, mRaise_ap, kRaise_1, get1_r, List.map_cons, List.map_nil, List.length_cons, List.length_nil, List.replicate, List.cons_append, List.nil_append, List.set_cons_zero, List.set_cons_succ, List.getElem?_cons_zero, List.getElem?_cons_succ, Nat.reduceSub, Nat.reduceAdd, Nat.reduceLeDiff, Nat.reduceLT,  cond_true, cond_false, if_true, if_false, ite_true, ite_false, Bool.false_eq_true, reduceIte, Nat.zero_add, Option.bind_some, ne_eq, Int.reduceEq, not_false_eq_true, not_true_eq_false, decide_true, decide_false, Bool.not_true, Bool.not_false, *])

def rnd (ss : List Stp) (kn : Kn) : Kn := ss.foldl learn kn
def it (ss : List Stp) : Nat → Kn
  | 0 => []
  | n + 1 => rnd ss (it ss n)
theorem give_ext (kn : Kn) (t : Tm) (o : Option Str) : ∃ e, give kn t o = kn ++ e := by
  unfold give
  split
  · split
    · exact ⟨[], by simp⟩
    · exact ⟨_, rfl⟩
  · exact ⟨[], by simp⟩
theorem learn_ext (kn : Kn) (s : Stp) : ∃ e, learn kn s = kn ++ e := by
  cases s with
  | need k t w => exact give_ext _ _ _
  | alike l r =>
    obtain ⟨a, ea⟩ := give_ext kn l (kd kn r)
    obtain ⟨b, eb⟩ := give_ext (give kn l (kd kn r)) r (kd (give kn l (kd kn r)) l)
    exact ⟨a ++ b, by show give (give kn l (kd kn r)) r (kd (give kn l (kd kn r)) l) = _; rw [eb, ea, List.append_assoc]⟩
  | bound x => exact ⟨[], by simp [learn]⟩
theorem rnd_ext : ∀ (ss : List Stp) (kn : Kn), ∃ e, rnd ss kn = kn ++ e
  | [], kn => ⟨[], by simp [rnd]⟩
  | s :: ss, kn => by
    obtain ⟨a, ea⟩ := learn_ext kn s
    obtain ⟨b, eb⟩ := rnd_ext ss (learn kn s)
    refine ⟨a ++ b, ?_⟩
    show rnd ss (learn kn s) = _
    rw [eb, ea, List.append_assoc]
theorem rnd_same {ss : List Stp} {kn : Kn} (h : (rnd ss kn).length = kn.length) : rnd ss kn = kn := by
  obtain ⟨e, he⟩ := rnd_ext ss kn
  rw [he] at h ⊢
  have : e = [] := by
    rw [List.length_append] at h
    exact List.eq_nil_of_length_eq_zero (by omega)
  rw [this, List.append_nil]
/-- a round that finds nothing: each step finds nothing -/
theorem fix_step : ∀ {ss : List Stp} {kn : Kn}, rnd ss kn = kn → ∀ s ∈ ss, learn kn s = kn
  | [], _, _, s, h => by cases h
  | s0 :: ss, kn, h, s, hs => by
    have h : rnd ss (learn kn s0) = kn := h
    obtain ⟨a, ea⟩ := learn_ext kn s0
    obtain ⟨b, eb⟩ := rnd_ext ss (learn kn s0)
    have hl : kn ++ (a ++ b) = kn := by rw [← List.append_assoc, ← ea, ← eb, h]
    have hab : a ++ b = [] := by
      have := congrArg List.length hl
      rw [List.length_append] at this
      exact List.eq_nil_of_length_eq_zero (by omega)
    have ha : a = [] := (List.append_eq_nil_iff.mp hab).1
    rw [ha, List.append_nil] at ea
    rw [ea] at h
    rcases List.mem_cons.mp hs with rfl | hs
    · exact ea
    · exact fix_step h s hs
theorem it_fix {ss : List Stp} {j : Nat} (h : rnd ss (it ss j) = it ss j) : ∀ m, it ss (j + m) = it ss j
  | 0 => rfl
  | m + 1 => by
    show rnd ss (it ss (j + m)) = _
    rw [it_fix h m, h]
/-! no name twice -/
def KnOk (kn : Kn) : Prop := (kn.map (·.1)).Nodup ∧ ∀ x ∈ kn.map (·.1), x ∈ NM
theorem nodup_len : ∀ {l m : List Str}, l.Nodup → (∀ x ∈ l, x ∈ m) → l.length ≤ m.length
  | [], m, _, _ => by simp
  | x :: l, m, hn, hs => by
    rw [List.nodup_cons] at hn
    have hx := hs x List.mem_cons_self
    have := nodup_len (l := l) (m := m.erase x) hn.2 fun y hy => (List.mem_erase_of_ne (a := y) (b := x) (fun e => hn.1 (by rw [← e]; exact hy))).mpr (hs y (List.mem_cons_of_mem _ hy))
    rw [List.length_erase_of_mem hx] at this
    have := List.length_pos_of_mem hx
    rw [List.length_cons]; omega
theorem KnOk.len {kn : Kn} (h : KnOk kn) : kn.length ≤ 7 := by
  have := nodup_len h.1 h.2
  simpa [NM] using this
theorem give_kn {kn : Kn} {t : Tm} {o : Option Str} (h : KnOk kn) (nt : nT1 t) : KnOk (give kn t o) := by
  unfold give
  split
  · rename_i x v
    cases q : kn.lookup x with
    | some w => exact h
    | none =>
      dsimp only
      have hx := lookup_none q
      refine ⟨?_, fun y hy => ?_⟩
      · rw [List.map_append, List.map_cons, List.map_nil]
        refine List.nodup_append.mpr ⟨h.1, by simp, fun a ha b hb e => ?_⟩
        simp at hb
        subst hb e
        exact hx ha
      · rw [List.map_append, List.map_cons, List.map_nil, List.mem_append] at hy
        rcases hy with hy | hy
        · exact h.2 y hy
        · simp at hy; subst hy; exact nt
  · exact h
theorem learn_kn {kn : Kn} {s : Stp} (h : KnOk kn) (ns : nS s) : KnOk (learn kn s) := by
  cases s with
  | need k t w => exact give_kn h ns
  | alike l r => exact give_kn (give_kn h ns.1) ns.2
  | bound x => exact h
theorem rnd_kn : ∀ {ss : List Stp} {kn : Kn}, KnOk kn → (∀ s ∈ ss, nS s) → KnOk (rnd ss kn)
  | [], _, h, _ => h
  | s :: ss, kn, h, ns => rnd_kn (ss := ss) (learn_kn h (ns s List.mem_cons_self)) fun s hs => ns s (List.mem_cons_of_mem _ hs)
theorem it_kn {ss : List Stp} (ns : ∀ s ∈ ss, nS s) : ∀ n, KnOk (it ss n)
  | 0 => ⟨by simp [it], by simp [it]⟩
  | n + 1 => rnd_kn (it_kn ns n) ns
/-! a round of the program -/
theorem rnd_loop {S Kd : Nat} {L : List D} (hne : S ≠ Kd) {x0 x1 x2 x4 : Option D} : ∀ {ss : List Stp} {kn : Kn} {h : HP} {x5 : Option D}, h[S]? = some (.lst L) → h[Kd]? = some (.dic (eK kn)) → KnOk kn → (∀ s ∈ ss, nS s) →
    ∃ h' y5, mLoop (fun h => h[S]? = some (.lst L)) (gN 5) L_kinds_of_2 (ss.map eP) [x0, x1, x2, some (.ref Kd), x4, x5] h = .nx [x0, x1, x2, some (.ref Kd), x4, y5] h' ∧ Fr Kd h h' ∧ h'[Kd]? = some (.dic (eK (rnd ss kn)))
  | [], kn, h, x5, eS, e, _, _ => ⟨h, x5, mLoop_nil eS, Fr.refl _ _, e⟩
  | s :: ss, kn, h, x5, eS, e, ok, ns => by
    obtain ⟨h1, e1, f1, g1⟩ := learn_ok (s := s) e (by have := ok.len; omega)
    have st : L_kinds_of_2 [x0, x1, x2, some (.ref Kd), x4, some (eP s)] h = .nx [x0, x1, x2, some (.ref Kd), x4, some (eP s)] h1 := by
      unfold L_kinds_of_2
      generalize eP s = z at *
      clear g1 e eS
      walk_at "pm"
    obtain ⟨h2, y5, e2, f2, g2⟩ := rnd_loop hne (ss := ss) (x5 := some (eP s)) (f1.at' _ _ hne eS) g1 (learn_kn ok (ns s List.mem_cons_self)) (fun s hs => ns s (List.mem_cons_of_mem _ hs)) (x0 := x0) (x1 := x1) (x2 := x2) (x4 := x4)
    exact ⟨h2, y5, (mLoop_nx eS rfl (.inl st)).trans e2, f1.trans f2, g2⟩
theorem itA_l {h : HP} {i : Nat} {xs : List D} (e : h[i]? = some (.lst xs)) : itA (.ref i) h = .ok (xs, fun h => h[i]? = some (.lst xs)) h := by
  unfold itA; dsimp only; rw [e]
theorem body_ok {S Kd : Nat} {ss : List Stp} (hne : S ≠ Kd) {kn : Kn} {h : HP} {x0 x1 x4 x5 : Option D} (eS : h[S]? = some (.lst (ss.map eP))) (e : h[Kd]? = some (.dic (eK kn))) (ok : KnOk kn) (ns : ∀ s ∈ ss, nS s) :
    ∃ h' y5, L_kinds_of_1 [x0, x1, some (.ref S), some (.ref Kd), x4, x5] h = .nx [x0, x1, some (.ref S), some (.ref Kd), some (.int kn.length), y5] h' ∧ Fr Kd h h' ∧ h'[Kd]? = some (.dic (eK (rnd ss kn))) := by
  obtain ⟨h', y5, e1, f1, g1⟩ := rnd_loop hne eS e ok ns (x0 := x0) (x1 := x1) (x2 := some (.ref S)) (x4 := some (.int kn.length)) (x5 := x5)
  refine ⟨h', y5, ?_, f1, g1⟩
  have ln : ((eK kn).length : Int) = (kn.length : Int) := by rw [eK_len]
  have mf : mFor (iA (mVar 2)) (gN 5) (L_kinds_of_2) [x0, x1, some (.ref S), some (.ref Kd), some (.int kn.length), x5] h = .nx [x0, x1, some (.ref S), some (.ref Kd), some (.int kn.length), y5] h' := by
    refine (mFor_ok ?_).trans e1
    exact itA_l eS
  unfold L_kinds_of_1
  clear e1 g1 eS
  walk_at "pm"
theorem test_ok {Kd : Nat} {kn : Kn} {h : HP} {k : Int} {x0 x1 x2 x5 : Option D} (e : h[Kd]? = some (.dic (eK kn))) : T_kinds_of_1 [x0, x1, x2, some (.ref Kd), some (.int k), x5] h = .ok (decide (k < (kn.length : Int))) h := by
  have ln : ((eK kn).length : Int) = (kn.length : Int) := by rw [eK_len]
  unfold T_kinds_of_1
  walk_at "pm"
theorem wh_ok {S Kd : Nat} {ss : List Stp} (hne : S ≠ Kd) (ns : ∀ s ∈ ss, nS s) {x0 x1 : Option D} : ∀ (m F i : Nat) (k : Int) {h : HP} {x5 : Option D}, 8 - (it ss i).length ≤ m → m + 2 ≤ F → h[S]? = some (.lst (ss.map eP)) → h[Kd]? = some (.dic (eK (it ss i))) → i ≤ (it ss i).length → k < ((it ss i).length : Int) ∨ i = 0 ∧ k = -1 →
    ∃ h' k' y5 j, mWhileN F T_kinds_of_1 L_kinds_of_1 [x0, x1, some (.ref S), some (.ref Kd), some (.int k), x5] h = .nx [x0, x1, some (.ref S), some (.ref Kd), some (.int k'), y5] h' ∧ Fr Kd h h' ∧ h'[Kd]? = some (.dic (eK (it ss j))) ∧ rnd ss (it ss j) = it ss j ∧ j ≤ 8
  | 0, F, i, k, h, x5, hm, _, _, _, _, _ => by have := (it_kn ns i).len; omega
  | m + 1, F, i, k, h, x5, hm, hF, eS, e, hi, hk => by
    have ok := it_kn ns i
    have hk' : k < ((it ss i).length : Int) := by
      rcases hk with hk | ⟨rfl, rfl⟩
      · exact hk
      · omega
    obtain ⟨F, rfl⟩ : ∃ F', F = F' + 1 := ⟨F - 1, by omega⟩
    obtain ⟨h1, y5, e1, f1, g1⟩ := body_ok hne eS e ok ns (x0 := x0) (x1 := x1) (x4 := some (.int k)) (x5 := x5)
    have t1 := test_ok (k := k) (x0 := x0) (x1 := x1) (x2 := some (.ref S)) (x5 := x5) e
    rw [decide_eq_true hk'] at t1
    have w1 := wh_nx (n := F) t1 (.inl e1)
    have eS1 := f1.at' _ _ hne eS
    have g1' : h1[Kd]? = some (.dic (eK (it ss (i + 1)))) := g1
    obtain ⟨ex, hex⟩ := rnd_ext ss (it ss i)
    have hl : (it ss (i + 1)).length = (it ss i).length + ex.length := by show (rnd ss (it ss i)).length = _; rw [hex, List.length_append]
    by_cases c : ex.length = 0
    · obtain ⟨F, rfl⟩ : ∃ F', F = F' + 1 := ⟨F - 1, by omega⟩
      have fx : rnd ss (it ss i) = it ss i := rnd_same (by rw [hex, List.length_append]; omega)
      have t2 := test_ok (k := ((it ss i).length : Int)) (x0 := x0) (x1 := x1) (x2 := some (.ref S)) (x5 := y5) g1'
      rw [decide_eq_false (by rw [hl, c]; omega)] at t2
      refine ⟨h1, _, y5, i, w1.trans (wh_f t2), f1, by rw [g1, fx], fx, by have := ok.len; omega⟩
    · obtain ⟨h2, k2, z5, j, e2, f2, g2, fx, hj⟩ := wh_ok hne ns m F (i + 1) ((it ss i).length : Int) (h := h1) (x5 := y5) (by omega) (by omega) eS1 g1' (by omega) (.inl (by rw [hl]; omega)) (x0 := x0) (x1 := x1)
      exact ⟨h2, k2, z5, j, w1.trans e2, f1.trans f2, g2, fx, hj⟩
end K13
end
section
set_option Elab.async false
set_option linter.all false
set_option maxRecDepth 100000
set_option maxHeartbeats 4000000
namespace K13
open PySem L2 PM
local macro_rules | `(tactic| walk_at "pm") => `(tactic| simp (config := { decide := true }) only [bind_ok, toS_ok, seq_nx, seq_rt, seq_bk, seq_ct, seq_exc, bind_exc, toS_exc, mSeq_ap, mNext_ap, mSet_ap, kSet_ap, mAsg_ap, kAsg_ap, ofS_some, gN_ap, gTup_ap, gCons_ap, gNil_ap, mDrop_ap, kDrop_ap, mRet_ap, mRetN_ap, mIfS_ap, kIf_t, kIf_f, mBreak_ap, mCont_ap, mBad_ap, mAug_ap, kAug_ap, mVar_ap, mC_ap, m1_ap, k1_ap, m2_ap, k2_ap, k2'_ap, ofO_some, mNil_ap, mCons_ap, kC_ap, kC'_ap, mCall_ap, mB_ap, kB_ap, mMeth_ap, kM_ap, kM'_ap, mTest_ap, kBl_ap, mNot_ap, kNot_ap, mAnd_ap, kAnd_t, kAnd_f, mOr_ap, kOr_t, kOr_f, mIfE_ap, kIfE_t, kIfE_f, mAndV_ap, kAndV_t, kAndV_f, mOrV_ap, kOrV_t, kOrV_f, mNotV_ap, kNotV_ap, mTup_ap, kTup_ap, mLst_ap, kLst_ap, mNoPart_ap, mPart_ap, kInt_ap, mSl_ap, kSl1_ap, kSl2_ap, kSl3_ap, mChain_ap, kCh0_ap, kCh1_ap, kCh2_t, kCh2_f, kCh3_ap, mPutD_ap, kP1_ap, kP2_ap, kP3_ap, runDef_ap, fin_nx, fin_rt, fin_exc, mYes_ap, add_ii, iadd_ii, add_ss, sub_ii, mul_ii, mul_si, mod_ii, fdiv_ii, pow_ii, neg_i, ord_ii, ord_ss, eq_ii, ne_ii, eq_ss, ne_ss, is_non, isn_non, int_i, len_s, len_t, min_ii, sl_s, in_c, nin_c, split_s, str1_ss, find4_s, ty_str, ord_c, iR1_ap, itR1_i, iS_ap, itS_s, iT_ap, itT_t, iE_ap, oD_some, len_r, oLen_l, oLen_r, oKey_s, it_ref, itH_r, itH_t, itH_s, oIH_d, oIH_l, oIH_r, tupF_r, oTupF_l, mTupF_ap, kTupF_ap, seq_t, seq_s, seq_r, oSeq_l, mStar_ap, kSt_ap, kSt1_s, kSt2_ap, lst_d, oLst_s, mTupRev_ap, kRev_t, kRev_s, len_st, min_l, oTy_t, oTy_d, isi_i, isi_s, mIdx_ap, kIx_s, kIxs_ap, kIx1_s, iA_ap, itA_t, itA_s, oItem_d, oItem_l, oItem_r, it_tup, oC_some, it_str, keyD_s, keyD_i, app_r, oApp_l, ext_r, oExt_l, ty_ref, oTy_l, isi_ref, oIsi_l, put_ref, oPut_d, oPutK_s, oBls_s, all_r, oAll_l, tup_r, oTup_l, itE_r, oEnum_l, slT_t, addL_r, oCat_l, lenQ_r, oLenQ_d, isiT_t, isiT_i, isiT_s, isiT_n, mInK_ap, kInK_s, mAtK_ap, kAtK_s, kAtK1_s, mPar_ap, kPar_ap, mPutJ_ap, kJ1_ap, kJ2_ap, mRaise_ap, kRaise_1, get1_r, List.map_cons, List.map_nil, List.length_cons, List.length_nil, List.replicate, List.cons_append, List.nil_append, List.set_cons_zero, List.set_cons_succ, List.getElem?_cons_zero, List.getElem?_cons_succ, Nat.reduceSub, Nat.reduceAdd, Nat.reduceLeDiff, Nat.reduceLT,  cond_true, cond_false, if_true, if_false, ite_true, ite_false, Bool.false_eq_true, reduceIte, Nat.zero_add, Option.bind_some, ne_eq, Int.reduceEq, not_false_eq_true, not_true_eq_false, decide_true, decide_false, Bool.not_true, Bool.not_false, *])

inductive KRes (ss : List Stp) (F : Kn) (h : HP) (r : R D) : Prop
  | wr (w : Str) (h' : HP) (e : ss.findSome? (wrong F) = some w) (q : r = .exc "WrongKind" [("word", .str w)] h') (x : X0 h h')
  | no (w : Str) (h' : HP) (e0 : ss.findSome? (wrong F) = none) (e : ss.findSome? (unk F) = some w) (q : r = .exc "NoKind" (noE w) h') (x : X0 h h')
  | ok (Kd : Nat) (h' : HP) (e0 : ss.findSome? (wrong F) = none) (e : ss.findSome? (unk F) = none) (q : r = .ok (.ref Kd) h') (x : X0 h h') (g : h'[Kd]? = some (.dic (eK F)))
theorem kinds_ok {c : Co} (ok : okC c 4) (ns : ∀ s ∈ sC c, nS s) (sh : ∀ s ∈ sC c, shS s) {h : HP} {Ev : Nat} (ev : h[Ev]? = some (.dic evK)) :
    rnd (sC c) (it (sC c) 12) = it (sC c) 12 ∧ KRes (sC c) (it (sC c) 12) h (m_kinds_of [eC c, .ref Ev] h) := by
  have ln := sC_len ok
  have p16 : 2 ^ 4 = 16 := rfl
  have eS0 : (h ++ [Ob.lst []])[h.length]? = some (.lst []) := last_get
  have ev0 : (h ++ [Ob.lst []])[Ev]? = some (.dic evK) := (X0.app _ _).at' _ _ ev
  obtain ⟨h1, e1, f1, g1⟩ := ad_ok 20 c 4 ok (by omega) _ Ev h.length [] eS0 ev0 (by simp; omega)
  rw [List.nil_append] at g1
  have x1 : X0 h h1 := (X0.app h [Ob.lst []]).of_fr f1 (Nat.le_refl _)
  have hS : h.length < h1.length := get_lt g1
  have hne : h.length ≠ h1.length := by omega
  have eS2 : (h1 ++ [Ob.dic []])[h.length]? = some (.lst ((sC c).map eP)) := (X0.app _ _).at' _ _ g1
  have eK2 : (h1 ++ [Ob.dic []])[h1.length]? = some (.dic (eK (it (sC c) 0))) := last_get
  obtain ⟨h2, k2, y5, j, e2, f2, g2, fx, hj⟩ := wh_ok hne ns 8 wN 0 (-1) (h := h1 ++ [Ob.dic []]) (x5 := none) (by omega) (by unfold wN; omega) eS2 eK2 (by simp [it]) (.inr ⟨rfl, rfl⟩) (x0 := some (eC c)) (x1 := some (.ref Ev))
  have i12 : it (sC c) 12 = it (sC c) j := by
    have := it_fix fx (12 - j)
    rwa [show j + (12 - j) = 12 by omega] at this
  rw [i12]
  refine ⟨fx, ?_⟩
  have x2 : X0 h h2 := (x1.trans (X0.app h1 [Ob.dic []])).of_fr f2 (by omega)
  have eS3 := f2.at' _ _ hne eS2
  have mw : mWhile T_kinds_of_1 L_kinds_of_1 [some (eC c), some (.ref Ev), some (.ref h.length), some (.ref h1.length), some (.int (-1)), none] (h1 ++ [Ob.dic []]) = .nx [some (eC c), some (.ref Ev), some (.ref h.length), some (.ref h1.length), some (.int k2), y5] h2 := by
    rw [mWhile_eq]; exact e2
  have ei : ∀ y : Option D, iA (mVar 2) [some (eC c), some (.ref Ev), some (.ref h.length), some (.ref h1.length), some (.int k2), y] h2 = .ok ((sC c).map eP, fun hh => hh[h.length]? = some (.lst ((sC c).map eP))) h2 := fun y => itA_l eS3
  obtain ⟨c1, c2⟩ := chk_loop (ss := sC c) eS3 g2 sh (x0 := some (eC c)) (x1 := some (.ref Ev)) (x2 := some (.ref h.length)) (x4 := some (.int k2)) (x5 := y5)
  have md : ∀ s (hh : HP), mDict0 s hh = .ok (.ref hh.length) (hh ++ [.dic []]) := fun _ _ => rfl
  have ng : (-(1 : Int)) = -1 := rfl
  -- all up to the checks
  have run : ∀ Z : MS, mSeq (mSet 2 (mLst (mNil))) (mSeq (mDrop (mCall (m_u_add_steps 20) (mCons (mVar 0) (mCons (mVar 1) (mCons (mVar 2) (mNil)))))) (mSeq (mSet 3 (mDict0)) (mSeq (mSet 4 (m1 negG (mC (.int 1)))) (mSeq (mWhile (T_kinds_of_1) (L_kinds_of_1)) Z)))) [some (eC c), some (.ref Ev), none, none, none, none] h = Z [some (eC c), some (.ref Ev), some (.ref h.length), some (.ref h1.length), some (.int k2), y5] h2 := fun Z => by
    clear c1 c2 ei e2 g1 g2 fx i12 eS0 ev0 eS2 eK2 eS3 ev ok ln
    generalize eC c = zc at *
    walk_at "pm"
  have top : m_kinds_of [eC c, .ref Ev] h = fin (mSeq (mFor (iA (mVar 2)) (gN 5) (L_kinds_of_3)) (mSeq (mFor (iA (mVar 2)) (gN 5) (L_kinds_of_4)) (mRet (mVar 3))) [some (eC c), some (.ref Ev), some (.ref h.length), some (.ref h1.length), some (.int k2), y5] h2) := by
    unfold m_kinds_of b_kinds_of
    rw [runDef_ap]
    exact congrArg fin (run _)
  cases w : (sC c).findSome? (wrong (it (sC c) j)) with
  | some w1 =>
    obtain ⟨s2, q⟩ := c2 w1 w
    have m3 : mFor (iA (mVar 2)) (gN 5) (L_kinds_of_3) [some (eC c), some (.ref Ev), some (.ref h.length), some (.ref h1.length), some (.int k2), y5] h2 = .exc s2 "WrongKind" [("word", .str w1)] h2 := (mFor_ok (ei _)).trans q
    refine .wr w1 h2 w ?_ x2
    rw [top, mSeq_ap, m3]
    rfl
  | none =>
    obtain ⟨z5, q⟩ := c1 w
    have m3 : mFor (iA (mVar 2)) (gN 5) (L_kinds_of_3) [some (eC c), some (.ref Ev), some (.ref h.length), some (.ref h1.length), some (.int k2), y5] h2 = .nx [some (eC c), some (.ref Ev), some (.ref h.length), some (.ref h1.length), some (.int k2), z5] h2 := (mFor_ok (ei _)).trans q
    obtain ⟨d1, d2⟩ := kno_loop (ss := sC c) eS3 g2 ns (x0 := some (eC c)) (x1 := some (.ref Ev)) (x2 := some (.ref h.length)) (x4 := some (.int k2)) (x5 := z5)
    cases u : (sC c).findSome? (unk (it (sC c) j)) with
    | some u1 =>
      obtain ⟨s2, q2⟩ := d2 u1 u
      have m4 : mFor (iA (mVar 2)) (gN 5) (L_kinds_of_4) [some (eC c), some (.ref Ev), some (.ref h.length), some (.ref h1.length), some (.int k2), z5] h2 = .exc s2 "NoKind" (noE u1) h2 := (mFor_ok (ei _)).trans q2
      refine .no u1 h2 w u ?_ x2
      rw [top, mSeq_ap, m3, seq_nx, mSeq_ap, m4]
      rfl
    | none =>
      obtain ⟨u5, q2⟩ := d1 u
      have m4 : mFor (iA (mVar 2)) (gN 5) (L_kinds_of_4) [some (eC c), some (.ref Ev), some (.ref h.length), some (.ref h1.length), some (.int k2), z5] h2 = .nx [some (eC c), some (.ref Ev), some (.ref h.length), some (.ref h1.length), some (.int k2), u5] h2 := (mFor_ok (ei _)).trans q2
      refine .ok h1.length h2 w u ?_ x2 g2
      rw [top, mSeq_ap, m3, seq_nx, mSeq_ap, m4]
      rfl
end K13
end
section
set_option Elab.async false
set_option linter.all false
set_option maxRecDepth 100000
set_option maxHeartbeats 4000000
namespace K13
open PySem L2 PM
local macro_rules | `(tactic| walk_at "pm") => `(tactic| simp (config := { decide := true }) only [bind_ok, toS_ok, seq_nx, seq_rt, seq_bk, seq_ct, seq_exc, bind_exc, toS_exc, mSeq_ap, mNext_ap, mSet_ap, kSet_ap, mAsg_ap, kAsg_ap, ofS_some, gN_ap, gTup_ap, gCons_ap, gNil_ap, mDrop_ap, kDrop_ap, mRet_ap, mRetN_ap, mIfS_ap, kIf_t, kIf_f, mBreak_ap, mCont_ap, mBad_ap, mAug_ap, kAug_ap, mVar_ap, mC_ap, m1_ap, k1_ap, m2_ap, k2_ap, k2'_ap, ofO_some, mNil_ap, mCons_ap, kC_ap, kC'_ap, mCall_ap, mB_ap, kB_ap, mMeth_ap, kM_ap, kM'_ap, mTest_ap, kBl_ap, mNot_ap, kNot_ap, mAnd_ap, kAnd_t, kAnd_f, mOr_ap, kOr_t, kOr_f, mIfE_ap, kIfE_t, kIfE_f, mAndV_ap, kAndV_t, kAndV_f, mOrV_ap, kOrV_t, kOrV_f, mNotV_ap, kNotV_ap, mTup_ap, kTup_ap, mLst_ap, kLst_ap, mNoPart_ap, mPart_ap, kInt_ap, mSl_ap, kSl1_ap, kSl2_ap, kSl3_ap, mChain_ap, kCh0_ap, kCh1_ap, kCh2_t, kCh2_f, kCh3_ap, mPutD_ap, kP1_ap, kP2_ap, kP3_ap, runDef_ap, fin_nx, fin_rt, fin_exc, mYes_ap, add_ii, iadd_ii, add_ss, sub_ii, mul_ii, mul_si, mod_ii, fdiv_ii, pow_ii, neg_i, ord_ii, ord_ss, eq_ii, ne_ii, eq_ss, ne_ss, is_non, isn_non, int_i, len_s, len_t, min_ii, sl_s, in_c, nin_c, split_s, str1_ss, find4_s, ty_str, ord_c, iR1_ap, itR1_i, iS_ap, itS_s, iT_ap, itT_t, iE_ap, oD_some, len_r, oLen_l, oLen_r, oKey_s, it_ref, itH_r, itH_t, itH_s, oIH_d, oIH_l, oIH_r, tupF_r, oTupF_l, mTupF_ap, kTupF_ap, seq_t, seq_s, seq_r, oSeq_l, mStar_ap, kSt_ap, kSt1_s, kSt2_ap, lst_d, oLst_s, mTupRev_ap, kRev_t, kRev_s, len_st, min_l, oTy_t, oTy_d, isi_i, isi_s, mIdx_ap, kIx_s, kIxs_ap, kIx1_s, iA_ap, itA_t, itA_s, oItem_d, oItem_l, oItem_r, it_tup, oC_some, it_str, keyD_s, keyD_i, app_r, oApp_l, ext_r, oExt_l, ty_ref, oTy_l, isi_ref, oIsi_l, put_ref, oPut_d, oPutK_s, oBls_s, all_r, oAll_l, tup_r, oTup_l, itE_r, oEnum_l, slT_t, addL_r, oCat_l, lenQ_r, oLenQ_d, isiT_t, isiT_i, isiT_s, isiT_n, mInK_ap, kInK_s, mAtK_ap, kAtK_s, kAtK1_s, mPar_ap, kPar_ap, mPutJ_ap, kJ1_ap, kJ2_ap, mRaise_ap, kRaise_1, get1_r, List.map_cons, List.map_nil, List.length_cons, List.length_nil, List.replicate, List.cons_append, List.nil_append, List.set_cons_zero, List.set_cons_succ, List.getElem?_cons_zero, List.getElem?_cons_succ, Nat.reduceSub, Nat.reduceAdd, Nat.reduceLeDiff, Nat.reduceLT,  cond_true, cond_false, if_true, if_false, ite_true, ite_false, Bool.false_eq_true, reduceIte, Nat.zero_add, Option.bind_some, ne_eq, Int.reduceEq, not_false_eq_true, not_true_eq_false, decide_true, decide_false, Bool.not_true, Bool.not_false, *])

def eL : Stp → D
  | .need k t w => .tup [.str "is", eT t, .str k, .str w]
  | .alike l r => .tup [.str "same", eT l, eT r, .str "="]
  | .bound _ => .non
def nb : Stp → Bool
  | .bound _ => false
  | _ => true
def nT : Tm → List Str
  | .nm x => [x]
  | .bin _ l r => nT l ++ nT r
  | _ => []
theorem sT_nb : ∀ (t : Tm), (sT t).filter nb = sT t
  | .nm _ => rfl
  | .num _ => rfl
  | .txt _ => rfl
  | .bin b l r => by
    unfold sT
    rw [List.filter_append, sT_nb l, List.filter_cons_of_pos rfl, List.filter_append, sT_nb r]
    rfl
theorem disp_ok {ps : List (ME × ME)} {s : SD} {h h2 : HP} {qs : List (D × D)} {kvs kvs' : List (Key × D)} (mp : mPairs ps s (h ++ [.dic []]) = .ok qs h2) (g : h2[h.length]? = some (.dic [])) (kk : keysD qs = some kvs) (mg : mergeD [] kvs = kvs') (hl : kvs.length ≤ 15) :
    mDisp ps s h = .ok (.ref h.length) (h2.set h.length (.dic kvs')) := by
  unfold mDisp
  rw [mp, bind_ok, kk]
  dsimp only
  rw [g, mg, decide_eq_true hl]
  rfl
theorem set_last {h : HP} {o o' : Ob} : (h ++ [o]).set h.length o' = h ++ [o'] := by
  rw [List.set_append_right _ _ (Nat.le_refl _)]; simp
def sgK : List (Key × D) := [(.inr "plus", .str "+"), (.inr "less", .str "-")]
theorem sg_disp {s : SD} {h : HP} : mDisp [(mC (.str "plus"), mC (.str "+")), (mC (.str "less"), mC (.str "-"))] s h = .ok (.ref h.length) (h ++ [.dic sgK]) := by
  rw [disp_ok (qs := [(.str "plus", .str "+"), (.str "less", .str "-")]) (kvs := [(.inr "plus", .str "+"), (.inr "less", .str "-")]) (kvs' := sgK) (h2 := h ++ [.dic []]) rfl last_get rfl rfl (by decide), set_last]
theorem sg_get (b : Bool) : getK sgK (.inr (bw b)) = some (.str (bs b)) := by cases b <;> rfl
theorem inPM (b : Bool) (h : HP) : inH false (.str (bw b)) (.tup [.str "plus", .str "less"]) h = some (.bl true, h) := by cases b <;> rfl
/-! the law's steps of a term -/
theorem lts_step {rt : List D → HP → R D} {b : Bool} {t l r : Tm} {A r1 : Nat} {h h1 : HP} {L L1 : List D} (hi : rt [eT t] h = .ok (.ref r1) h1) (eA : h1[A]? = some (.lst L)) (e1 : h1[r1]? = some (.lst L1)) (hl : L.length + L1.length ≤ 100000) :
    ∃ A' h', L_u_law_term_steps_1 rt [some (eT (.bin b l r)), some (.ref A), some (eT t)] h = .nx [some (eT (.bin b l r)), some (.ref A'), some (eT t)] h' ∧ X0 h1 h' ∧ h1.length ≤ A' ∧ h'[A']? = some (.lst (L ++ L1 ++ [eL (.need "number" t (bs b))])) := by
  have l1 : L.length + L1.length ≤ 1000000 := by omega
  have g1 : (h1 ++ [Ob.lst (L ++ L1)])[h1.length]? = some (.lst (L ++ L1)) := last_get
  have ds := @sg_disp
  have g2 : ((h1 ++ [Ob.lst (L ++ L1)]) ++ [Ob.dic sgK])[(h1 ++ [Ob.lst (L ++ L1)]).length]? = some (.dic sgK) := last_get
  have x2 : X0 (h1 ++ [Ob.lst (L ++ L1)]) ((h1 ++ [Ob.lst (L ++ L1)]) ++ [Ob.dic sgK]) := X0.app _ _
  have x3 : X0 ((h1 ++ [Ob.lst (L ++ L1)]) ++ [Ob.dic sgK]) (((h1 ++ [Ob.lst (L ++ L1)]) ++ [Ob.dic sgK]) ++ [Ob.lst [eL (.need "number" t (bs b))]]) := X0.app _ _
  have g3 : (((h1 ++ [Ob.lst (L ++ L1)]) ++ [Ob.dic sgK]) ++ [Ob.lst [eL (.need "number" t (bs b))]])[h1.length]? = some (.lst (L ++ L1)) := x3.at' _ _ (x2.at' _ _ g1)
  have g4 : (((h1 ++ [Ob.lst (L ++ L1)]) ++ [Ob.dic sgK]) ++ [Ob.lst [eL (.need "number" t (bs b))]])[((h1 ++ [Ob.lst (L ++ L1)]) ++ [Ob.dic sgK]).length]? = some (.lst [eL (.need "number" t (bs b))]) := last_get
  have sg := sg_get b
  have ksb := ki_s (bw b)
  have a0 := @at0 (.str (bw b)) [eT l, eT r]
  have l2 : (L ++ L1).length + [eL (.need "number" t (bs b))].length ≤ 1000000 := by simp; omega
  have et : eT (.bin b l r) = .tup [.str (bw b), eT l, eT r] := rfl
  refine ⟨_, _, ?_, ((X0.app h1 _).trans (x2.trans x3)).trans (X0.app _ [Ob.lst (L ++ L1 ++ [eL (.need "number" t (bs b))])]), ?_, last_get⟩
  rotate_left
  · simp
  rw [et]
  have el : eL (.need "number" t (bs b)) = .tup [.str "is", eT t, .str "number", .str (bs b)] := rfl
  rw [el] at g3 g4 l2 ⊢
  unfold L_u_law_term_steps_1
  clear x2 x3 el et
  generalize eT t = zt at *
  generalize eT l = zl at *
  generalize eT r = zr at *
  have l3 : (L ++ L1).length + 1 ≤ 1000000 := l2
  have la : ∀ x : D, [x].length = 1 := fun _ => rfl
  walk_at "pm"
def LtsOk (n : Nat) : Prop := ∀ t d, okT t d → d < n → ∀ h : HP, (sT t).length ≤ 1000 → ∃ r h', m_u_law_term_steps n [eT t] h = .ok (.ref r) h' ∧ X0 h h' ∧ h'[r]? = some (.lst ((sT t).map eL)) ∧ h.length ≤ r
theorem lts_ok : ∀ n, LtsOk n
  | 0 => fun _ _ _ hn => by omega
  | n + 1 => by
    have ih := lts_ok n
    intro t d ok hn h hl
    have g0 : (h ++ [Ob.lst []])[h.length]? = some (.lst []) := last_get
    have leaf : ∀ (w : Str) (z : D), inH false (.str w) (.tup [.str "plus", .str "less"]) (h ++ [Ob.lst []]) = some (.bl false, h ++ [Ob.lst []]) → m_u_law_term_steps (n + 1) [.tup [.str w, z]] h = .ok (.ref h.length) (h ++ [Ob.lst []]) := fun w z hi => by
      have a0 := @at0 (.str w) [z]
      show runDef 3 (b_u_law_term_steps (m_u_law_term_steps n)) [.tup [.str w, z]] h = _
      unfold b_u_law_term_steps
      clear ih
      walk_at "pm"
    cases t with
    | nm x => exact ⟨_, _, leaf "name" (.str x) rfl, X0.app _ _, g0, Nat.le_refl _⟩
    | num i => exact ⟨_, _, leaf "num" (.int i) rfl, X0.app _ _, g0, Nat.le_refl _⟩
    | txt z => exact ⟨_, _, leaf "text" (.str z) rfl, X0.app _ _, g0, Nat.le_refl _⟩
    | bin b l r =>
      obtain ⟨k, rfl, ol, or⟩ := ok
      have ln : (sT (.bin b l r)).length = (sT l).length + 1 + (sT r).length + 1 := by simp [sT]; omega
      obtain ⟨r1, h1, e1, x1, q1, _⟩ := ih l k ol (by omega) (h ++ [Ob.lst []]) (by omega)
      obtain ⟨A2, h2, e2, x2, b2, q2⟩ := lts_step (b := b) (l := l) (r := r) e1 (x1.at' _ _ g0) q1 (by simp; omega)
      obtain ⟨r3, h3, e3, x3, q3, _⟩ := ih r k or (by omega) h2 (by omega)
      obtain ⟨A4, h4, e4, x4, b4, q4⟩ := lts_step (b := b) (l := l) (r := r) e3 (x3.at' _ _ q2) q3 (by simp; omega)
      refine ⟨A4, h4, ?_, ((((X0.app h [Ob.lst []]).trans x1).trans x2).trans x3).trans x4, ?_, ?_⟩
      rotate_left
      · rw [q4]; simp [sT]
      · have := x1.len; have := x2.len; have := x3.len; simp at *; omega
      have ei : iA (mSl slT (mVar 0) (mPart (mC (.int 1))) mNoPart) [some (eT (.bin b l r)), some (.ref h.length), none] (h ++ [Ob.lst []]) = .ok ([eT l, eT r], fun _ => True) (h ++ [Ob.lst []]) := rfl
      have mf : mFor (iA (mSl slT (mVar 0) (mPart (mC (.int 1))) mNoPart)) (gN 2) (L_u_law_term_steps_1 (m_u_law_term_steps n)) [some (eT (.bin b l r)), some (.ref h.length), none] (h ++ [Ob.lst []]) = .nx [some (eT (.bin b l r)), some (.ref A4), some (eT r)] h4 := by
        rw [mFor_ok ei]
        refine (mLoop_nx trivial rfl (.inl e2)).trans ?_
        refine (mLoop_nx trivial rfl (.inl e4)).trans ?_
        exact mLoop_nil trivial
      have a0 := @at0 (.str (bw b)) [eT l, eT r]
      have ip := inPM b
      have et : eT (.bin b l r) = .tup [.str (bw b), eT l, eT r] := rfl
      rw [et] at mf ⊢
      show runDef 3 (b_u_law_term_steps (m_u_law_term_steps n)) [.tup [.str (bw b), eT l, eT r]] h = _
      unfold b_u_law_term_steps
      clear ih e1 e2 e3 e4 q1 q2 q3 q4 x1 x2 x3 x4 ei leaf et g0 ol or
      generalize eT l = zl at *
      generalize eT r = zr at *
      walk_at "pm"
/-! the names of a term -/
def LtnOk (n : Nat) : Prop := ∀ t d, okT t d → d < n → ∀ h : HP, (nT t).length ≤ 1000 → ∃ r h', m_u_law_term_names n [eT t] h = .ok (.ref r) h' ∧ X0 h h' ∧ h'[r]? = some (.lst ((nT t).map D.str))
theorem ltn_ok : ∀ n, LtnOk n
  | 0 => fun _ _ _ hn => by omega
  | n + 1 => by
    have ih := ltn_ok n
    intro t d ok hn h hl
    cases t with
    | nm x =>
      have a0 := @at0 (.str "name") [.str x]
      have a1 := @at1 (.str "name") (.str x) []
      refine ⟨h.length, h ++ [.lst [.str x]], ?_, X0.app _ _, last_get⟩
      show runDef 1 (b_u_law_term_names (m_u_law_term_names n)) [.tup [.str "name", .str x]] h = _
      unfold b_u_law_term_names
      clear ih
      walk_at "pm"
    | num i =>
      have a0 := @at0 (.str "num") [.int i]
      have hi : inH false (.str "num") (.tup [.str "plus", .str "less"]) h = some (.bl false, h) := rfl
      refine ⟨h.length, h ++ [.lst []], ?_, X0.app _ _, last_get⟩
      show runDef 1 (b_u_law_term_names (m_u_law_term_names n)) [.tup [.str "num", .int i]] h = _
      unfold b_u_law_term_names
      clear ih
      walk_at "pm"
    | txt i =>
      have a0 := @at0 (.str "text") [.str i]
      have hi : inH false (.str "text") (.tup [.str "plus", .str "less"]) h = some (.bl false, h) := rfl
      refine ⟨h.length, h ++ [.lst []], ?_, X0.app _ _, last_get⟩
      show runDef 1 (b_u_law_term_names (m_u_law_term_names n)) [.tup [.str "text", .str i]] h = _
      unfold b_u_law_term_names
      clear ih
      walk_at "pm"
    | bin b l r =>
      obtain ⟨k, rfl, ol, or⟩ := ok
      have ln : (nT (.bin b l r)).length = (nT l).length + (nT r).length := by simp [nT]
      obtain ⟨r1, h1, e1, x1, q1⟩ := ih l k ol (by omega) h (by omega)
      obtain ⟨r2, h2, e2, x2, q2⟩ := ih r k or (by omega) h1 (by omega)
      have q1' := x2.at' _ _ q1
      refine ⟨h2.length, h2 ++ [.lst ((nT l).map D.str ++ (nT r).map D.str)], ?_, (x1.trans x2).trans (X0.app _ _), by rw [last_get]; simp [nT]⟩
      have a0 := @at0 (.str (bw b)) [eT l, eT r]
      have a1 := @at1 (.str (bw b)) (eT l) [eT r]
      have a2 := @at2 (.str (bw b)) (eT l) (eT r) []
      have ip := inPM b
      have c1 : (bw b = "name") = False := by cases b <;> (simp [bw]; decide)
      have l2 : ((nT l).map D.str).length + ((nT r).map D.str).length ≤ 1000000 := by simp; omega
      show runDef 1 (b_u_law_term_names (m_u_law_term_names n)) [.tup [.str (bw b), eT l, eT r]] h = _
      unfold b_u_law_term_names
      clear ih x1 x2 ol or q1 ln hl
      generalize eT l = zl at *
      generalize eT r = zr at *
      generalize (nT l).map D.str = nl at *
      generalize (nT r).map D.str = nr at *
      walk_at "pm"
end K13
end
section
set_option Elab.async false
set_option linter.all false
set_option maxRecDepth 100000
set_option maxHeartbeats 4000000
namespace K13
open PySem L2 PM
local macro_rules | `(tactic| walk_at "pm") => `(tactic| simp (config := { decide := true }) only [bind_ok, toS_ok, seq_nx, seq_rt, seq_bk, seq_ct, seq_exc, bind_exc, toS_exc, mSeq_ap, mNext_ap, mSet_ap, kSet_ap, mAsg_ap, kAsg_ap, ofS_some, gN_ap, gTup_ap, gCons_ap, gNil_ap, mDrop_ap, kDrop_ap, mRet_ap, mRetN_ap, mIfS_ap, kIf_t, kIf_f, mBreak_ap, mCont_ap, mBad_ap, mAug_ap, kAug_ap, mVar_ap, mC_ap, m1_ap, k1_ap, m2_ap, k2_ap, k2'_ap, ofO_some, mNil_ap, mCons_ap, kC_ap, kC'_ap, mCall_ap, mB_ap, kB_ap, mMeth_ap, kM_ap, kM'_ap, mTest_ap, kBl_ap, mNot_ap, kNot_ap, mAnd_ap, kAnd_t, kAnd_f, mOr_ap, kOr_t, kOr_f, mIfE_ap, kIfE_t, kIfE_f, mAndV_ap, kAndV_t, kAndV_f, mOrV_ap, kOrV_t, kOrV_f, mNotV_ap, kNotV_ap, mTup_ap, kTup_ap, mLst_ap, kLst_ap, mNoPart_ap, mPart_ap, kInt_ap, mSl_ap, kSl1_ap, kSl2_ap, kSl3_ap, mChain_ap, kCh0_ap, kCh1_ap, kCh2_t, kCh2_f, kCh3_ap, mPutD_ap, kP1_ap, kP2_ap, kP3_ap, runDef_ap, fin_nx, fin_rt, fin_exc, mYes_ap, add_ii, iadd_ii, add_ss, sub_ii, mul_ii, mul_si, mod_ii, fdiv_ii, pow_ii, neg_i, ord_ii, ord_ss, eq_ii, ne_ii, eq_ss, ne_ss, is_non, isn_non, int_i, len_s, len_t, min_ii, sl_s, in_c, nin_c, split_s, str1_ss, find4_s, ty_str, ord_c, iR1_ap, itR1_i, iS_ap, itS_s, iT_ap, itT_t, iE_ap, oD_some, len_r, oLen_l, oLen_r, oKey_s, it_ref, itH_r, itH_t, itH_s, oIH_d, oIH_l, oIH_r, tupF_r, oTupF_l, mTupF_ap, kTupF_ap, seq_t, seq_s, seq_r, oSeq_l, mStar_ap, kSt_ap, kSt1_s, kSt2_ap, lst_d, oLst_s, mTupRev_ap, kRev_t, kRev_s, len_st, min_l, oTy_t, oTy_d, isi_i, isi_s, mIdx_ap, kIx_s, kIxs_ap, kIx1_s, iA_ap, itA_t, itA_s, oItem_d, oItem_l, oItem_r, it_tup, oC_some, it_str, keyD_s, keyD_i, app_r, oApp_l, ext_r, oExt_l, ty_ref, oTy_l, isi_ref, oIsi_l, put_ref, oPut_d, oPutK_s, oBls_s, all_r, oAll_l, tup_r, oTup_l, itE_r, oEnum_l, slT_t, addL_r, oCat_l, lenQ_r, oLenQ_d, isiT_t, isiT_i, isiT_s, isiT_n, mInK_ap, kInK_s, mAtK_ap, kAtK_s, kAtK1_s, mPar_ap, kPar_ap, mPutJ_ap, kJ1_ap, kJ2_ap, mRaise_ap, kRaise_1, get1_r, List.map_cons, List.map_nil, List.length_cons, List.length_nil, List.replicate, List.cons_append, List.nil_append, List.set_cons_zero, List.set_cons_succ, List.getElem?_cons_zero, List.getElem?_cons_succ, Nat.reduceSub, Nat.reduceAdd, Nat.reduceLeDiff, Nat.reduceLT,  cond_true, cond_false, if_true, if_false, ite_true, ite_false, Bool.false_eq_true, reduceIte, Nat.zero_add, Option.bind_some, ne_eq, Int.reduceEq, not_false_eq_true, not_true_eq_false, decide_true, decide_false, Bool.not_true, Bool.not_false, *])

/-! rules as data -/
def pT : Tm → PyData
  | .nm x => .tuple [.str "name", .str x]
  | .num i => .tuple [.str "num", .int i]
  | .txt z => .tuple [.str "text", .str z]
  | .bin b l r => .tuple [.str (bw b), pT l, pT r]
def pV : Option Str → PyData
  | some v => .str v
  | none => .none
def pC : Co → PyData
  | .ev1 b => .tuple [.str "event", .str "p", .tuple [pT b]]
  | .ev2 a b => .tuple [.str "event", .str "q", .tuple [pT a, pT b]]
  | .cmp sg l r => .tuple [.str "compare", .str sg, pT l, pT r]
  | .tru => .tuple [.str "true"]
  | .not f => .tuple [.str "not", pC f]
  | .two o f g => .tuple [.str (tw o), pC f, pC g]
  | .som x f => .tuple [.str "some", .str x, pC f]
  | .bef f => .tuple [.str "before", .int 0, .int 5, pC f]
  | .unt f g => .tuple [.str "until", .int 0, .int 5, pC f, pC g]
  | .grp own fn val f => .tuple [.str "group", .str own, .str fn, pV val, .tuple [], pC f]
def lT : Tm → Prop
  | .nm x => PyData.strOk x = true
  | .num _ => True
  | .txt z => PyData.strOk z = true
  | .bin _ l r => lT l ∧ lT r
def lC : Co → Prop
  | .ev1 b => lT b
  | .ev2 a b => lT a ∧ lT b
  | .cmp sg l r => PyData.strOk sg = true ∧ lT l ∧ lT r
  | .tru => True
  | .not f => lC f
  | .two _ f g => lC f ∧ lC g
  | .som x f => PyData.strOk x = true ∧ lC f
  | .bef f => lC f
  | .unt f g => lC f ∧ lC g
  | .grp own fn val f => PyData.strOk own = true ∧ PyData.strOk fn = true ∧ (∀ v, val = some v → PyData.strOk v = true) ∧ lC f
theorem py2 {n : Nat} {h : HP} {xs : List D} {ps : List PyData} (e : xs.mapM (toPy n h) = some ps) : toPy (n + 1) h (.tup xs) = some (.tuple ps) := by
  show (xs.mapM (toPy n h)).map PyData.tuple = _
  rw [e]; rfl
theorem pyS (n : Nat) (h : HP) (x : Str) : toPy (n + 1) h (.str x) = some (.str x) := rfl
theorem pyI (n : Nat) (h : HP) (x : Int) : toPy (n + 1) h (.int x) = some (.int x) := rfl
theorem pyT (h : HP) : ∀ {t : Tm} {d n : Nat}, okT t d → toPy (d + 2 + n) h (eT t) = some (pT t)
  | .nm x, d, n, _ => by
    rw [show d + 2 + n = (d + n) + 1 + 1 by omega]; exact py2 rfl
  | .num x, d, n, _ => by
    rw [show d + 2 + n = (d + n) + 1 + 1 by omega]; exact py2 rfl
  | .txt x, d, n, _ => by
    rw [show d + 2 + n = (d + n) + 1 + 1 by omega]; exact py2 rfl
  | .bin b l r, _, n, ⟨e, rfl, ol, or⟩ => by
    have h1 := pyT h (n := n) ol
    have h2 := pyT h (n := n) or
    rw [show e + 1 + 2 + n = (e + 2 + n) + 1 by omega]
    refine py2 ?_
    have s := pyS (e + 1 + n) h (bw b)
    rw [show e + 1 + n + 1 = e + 2 + n by omega] at s
    rw [List.mapM_cons, s, List.mapM_cons, h1, List.mapM_cons, h2]
    rfl
theorem dpT : ∀ {t : Tm} {d : Nat}, okT t d → (pT t).depth ≤ d + 2
  | .nm x, d, _ => by simp only [pT, PyData.depth, PyData.depthAll]; omega
  | .num x, d, _ => by simp only [pT, PyData.depth, PyData.depthAll]; omega
  | .txt x, d, _ => by simp only [pT, PyData.depth, PyData.depthAll]; omega
  | .bin b l r, _, ⟨e, rfl, ol, or⟩ => by
    have h1 := dpT ol
    have h2 := dpT or
    simp only [pT, PyData.depth, PyData.depthAll]; omega
theorem okW : PyData.strOk "name" = true ∧ PyData.strOk "num" = true ∧ PyData.strOk "text" = true ∧ PyData.strOk (bw true) = true ∧ PyData.strOk (bw false) = true := by decide +kernel
theorem laT : ∀ {t : Tm}, lT t → PyData.canLay0 (pT t) = true
  | .nm x, h => by
    have h : PyData.strOk x = true := h
    simp only [pT, PyData.canLay0, PyData.canLayAll0, okW.1, h, Bool.and_true]
  | .num x, h => by simp only [pT, PyData.canLay0, PyData.canLayAll0, okW.2.1, Bool.and_true]
  | .txt x, h => by
    have h : PyData.strOk x = true := h
    simp only [pT, PyData.canLay0, PyData.canLayAll0, okW.2.2.1, h, Bool.and_true]
  | .bin b l r, h => by
    have h1 := laT h.1
    have h2 := laT h.2
    have hb : PyData.strOk (bw b) = true := by cases b <;> decide +kernel
    simp only [pT, PyData.canLay0, PyData.canLayAll0, hb, h1, h2, Bool.and_true]
theorem pyC (h : HP) : ∀ {c : Co} {d n : Nat}, okC c d → toPy (d + 5 + n) h (eC c) = some (pC c)
  | .ev1 b, d, n, ok => by
    have h1 := pyT h (n := d + n + 1) (t := b) (d := 0) ok
    rw [show 0 + 2 + (d + n + 1) = d + n + 3 by omega] at h1
    rw [show d + 5 + n = (d + n + 3) + 1 + 1 by omega]
    refine py2 ?_
    have h2 : toPy (d + n + 3 + 1) h (.tup [eT b]) = some (.tuple [pT b]) := py2 (by rw [List.mapM_cons, h1]; rfl)
    rw [List.mapM_cons, pyS, List.mapM_cons, pyS, List.mapM_cons, h2]
    rfl
  | .ev2 a b, d, n, ok => by
    have h0 := pyT h (n := d + n + 1) (t := a) (d := 0) ok.1
    have h1 := pyT h (n := d + n + 1) (t := b) (d := 0) ok.2
    rw [show 0 + 2 + (d + n + 1) = d + n + 3 by omega] at h0 h1
    rw [show d + 5 + n = (d + n + 3) + 1 + 1 by omega]
    refine py2 ?_
    have h2 : toPy (d + n + 3 + 1) h (.tup [eT a, eT b]) = some (.tuple [pT a, pT b]) := py2 (by rw [List.mapM_cons, h0, List.mapM_cons, h1]; rfl)
    rw [List.mapM_cons, pyS, List.mapM_cons, pyS, List.mapM_cons, h2]
    rfl
  | .cmp sg l r, d, n, ok => by
    have h0 := pyT h (n := d + n) (t := l) (d := 2) ok.1
    have h1 := pyT h (n := d + n) (t := r) (d := 2) ok.2
    rw [show 2 + 2 + (d + n) = d + n + 3 + 1 by omega] at h0 h1
    rw [show d + 5 + n = (d + n + 3) + 1 + 1 by omega]
    refine py2 ?_
    rw [List.mapM_cons, pyS, List.mapM_cons, pyS, List.mapM_cons, h0, List.mapM_cons, h1]
    rfl
  | .tru, d, n, _ => by
    rw [show d + 5 + n = (d + n + 3) + 1 + 1 by omega]
    exact py2 rfl
  | .not f, _, n, ⟨e, rfl, hf⟩ => by
    have h1 := pyC h (n := n) hf
    rw [show e + 5 + n = (e + 4 + n) + 1 by omega] at h1
    rw [show e + 1 + 5 + n = (e + 4 + n) + 1 + 1 by omega]
    refine py2 ?_
    rw [List.mapM_cons, pyS, List.mapM_cons, h1]
    rfl
  | .two o f g, _, n, ⟨e, rfl, hf, hg⟩ => by
    have h1 := pyC h (n := n) hf
    have h2 := pyC h (n := n) hg
    rw [show e + 5 + n = (e + 4 + n) + 1 by omega] at h1 h2
    rw [show e + 1 + 5 + n = (e + 4 + n) + 1 + 1 by omega]
    refine py2 ?_
    rw [List.mapM_cons, pyS, List.mapM_cons, h1, List.mapM_cons, h2]
    rfl
  | .som x f, _, n, ⟨e, rfl, hf⟩ => by
    have h1 := pyC h (n := n) hf
    rw [show e + 5 + n = (e + 4 + n) + 1 by omega] at h1
    rw [show e + 1 + 5 + n = (e + 4 + n) + 1 + 1 by omega]
    refine py2 ?_
    rw [List.mapM_cons, pyS, List.mapM_cons, pyS, List.mapM_cons, h1]
    rfl
  | .bef f, _, n, ⟨e, rfl, hf⟩ => by
    have h1 := pyC h (n := n) hf
    rw [show e + 5 + n = (e + 4 + n) + 1 by omega] at h1
    rw [show e + 1 + 5 + n = (e + 4 + n) + 1 + 1 by omega]
    refine py2 ?_
    rw [List.mapM_cons, pyS, List.mapM_cons, pyI, List.mapM_cons, pyI, List.mapM_cons, h1]
    rfl
  | .unt f g, _, n, ⟨e, rfl, hf, hg⟩ => by
    have h1 := pyC h (n := n) hf
    have h2 := pyC h (n := n) hg
    rw [show e + 5 + n = (e + 4 + n) + 1 by omega] at h1 h2
    rw [show e + 1 + 5 + n = (e + 4 + n) + 1 + 1 by omega]
    refine py2 ?_
    rw [List.mapM_cons, pyS, List.mapM_cons, pyI, List.mapM_cons, pyI, List.mapM_cons, h1, List.mapM_cons, h2]
    rfl
  | .grp own fn val f, _, n, ⟨e, rfl, hf⟩ => by
    have h1 := pyC h (n := n) hf
    rw [show e + 5 + n = (e + 4 + n) + 1 by omega] at h1
    rw [show e + 1 + 5 + n = (e + 4 + n) + 1 + 1 by omega]
    refine py2 ?_
    have hv : toPy (e + 4 + n + 1) h (eV val) = some (pV val) := by cases val <;> rfl
    have hu : toPy (e + 4 + n + 1) h (.tup []) = some (.tuple []) := rfl
    rw [List.mapM_cons, pyS, List.mapM_cons, pyS, List.mapM_cons, pyS, List.mapM_cons, hv, List.mapM_cons, hu, List.mapM_cons, h1]
    rfl
theorem dpC : ∀ {c : Co} {d : Nat}, okC c d → (pC c).depth ≤ d + 5
  | .ev1 b, d, ok => by have := dpT (d := 0) ok; simp only [pC, PyData.depth, PyData.depthAll]; omega
  | .ev2 a b, d, ok => by have := dpT (d := 0) ok.1; have := dpT (d := 0) ok.2; simp only [pC, PyData.depth, PyData.depthAll]; omega
  | .cmp sg l r, d, ok => by have := dpT ok.1; have := dpT ok.2; simp only [pC, PyData.depth, PyData.depthAll]; omega
  | .tru, d, _ => by simp only [pC, PyData.depth, PyData.depthAll]; omega
  | .not f, _, ⟨e, rfl, hf⟩ => by have := dpC hf; simp only [pC, PyData.depth, PyData.depthAll]; omega
  | .two o f g, _, ⟨e, rfl, hf, hg⟩ => by have := dpC hf; have := dpC hg; simp only [pC, PyData.depth, PyData.depthAll]; omega
  | .som x f, _, ⟨e, rfl, hf⟩ => by have := dpC hf; simp only [pC, PyData.depth, PyData.depthAll]; omega
  | .bef f, _, ⟨e, rfl, hf⟩ => by have := dpC hf; simp only [pC, PyData.depth, PyData.depthAll]; omega
  | .unt f g, _, ⟨e, rfl, hf, hg⟩ => by have := dpC hf; have := dpC hg; simp only [pC, PyData.depth, PyData.depthAll]; omega
  | .grp own fn val f, _, ⟨e, rfl, hf⟩ => by
    have := dpC hf
    cases val <;> (simp only [pC, pV, PyData.depth, PyData.depthAll]; omega)
theorem okW2 : (PyData.strOk "event" = true ∧ PyData.strOk "p" = true ∧ PyData.strOk "q" = true ∧ PyData.strOk "compare" = true ∧ PyData.strOk "true" = true) ∧ PyData.strOk "not" = true ∧ PyData.strOk "some" = true ∧ PyData.strOk "before" = true ∧ PyData.strOk "until" = true ∧ PyData.strOk "group" = true := by decide +kernel
theorem laC : ∀ {c : Co}, lC c → PyData.canLay0 (pC c) = true
  | .ev1 b, h => by have h1 := laT h; simp only [pC, PyData.canLay0, PyData.canLayAll0, okW2.1.1, okW2.1.2.1, h1, Bool.and_true]
  | .ev2 a b, h => by have h1 := laT h.1; have h2 := laT h.2; simp only [pC, PyData.canLay0, PyData.canLayAll0, okW2.1.1, okW2.1.2.2.1, h1, h2, Bool.and_true]
  | .cmp sg l r, h => by have h0 := h.1; have h1 := laT h.2.1; have h2 := laT h.2.2; simp only [pC, PyData.canLay0, PyData.canLayAll0, okW2.1.2.2.2.1, h0, h1, h2, Bool.and_true]
  | .tru, h => by simp only [pC, PyData.canLay0, PyData.canLayAll0, okW2.1.2.2.2.2, Bool.and_true]
  | .not f, h => by have h1 := laC (c := f) h; simp only [pC, PyData.canLay0, PyData.canLayAll0, okW2.2.1, h1, Bool.and_true]
  | .two o f g, h => by
    have h1 := laC h.1; have h2 := laC h.2
    have ho : PyData.strOk (tw o) = true := by cases o <;> decide +kernel
    simp only [pC, PyData.canLay0, PyData.canLayAll0, ho, h1, h2, Bool.and_true]
  | .som x f, h => by have h0 := h.1; have h1 := laC h.2; simp only [pC, PyData.canLay0, PyData.canLayAll0, okW2.2.2.1, h0, h1, Bool.and_true]
  | .bef f, h => by have h1 := laC (c := f) h; simp only [pC, PyData.canLay0, PyData.canLayAll0, okW2.2.2.2.1, h1, Bool.and_true]
  | .unt f g, h => by have h1 := laC h.1; have h2 := laC h.2; simp only [pC, PyData.canLay0, PyData.canLayAll0, okW2.2.2.2.2.1, h1, h2, Bool.and_true]
  | .grp own fn val f, h => by
    obtain ⟨h0, h1, h2, h3⟩ := h
    have h3 := laC h3
    cases val with
    | none => simp only [pC, pV, PyData.canLay0, PyData.canLayAll0, okW2.2.2.2.2.2, h0, h1, h3, Bool.and_true]
    | some v => have h4 := h2 v rfl; simp only [pC, pV, PyData.canLay0, PyData.canLayAll0, okW2.2.2.2.2.2, h0, h1, h3, h4, Bool.and_true]
theorem pC_cons (c : Co) : ∃ p ps, pC c = .tuple (p :: ps) := by cases c <;> exact ⟨_, _, rfl⟩
theorem eC_tup (c : Co) : ∃ xs, eC c = .tup xs := by cases c <;> exact ⟨_, rfl⟩
theorem ne_unit {c : Co} {d : Nat} (ok : okC c d) (hd : d ≤ 10) (l : lC c) (h : HP) : eqG true (eC c) (.tup []) h = some (.bl true, h) := by
  have e1 : toPy 60 h (eC c) = some (pC c) := by
    have := pyC h (n := 55 - d) ok
    rwa [show d + 5 + (55 - d) = 60 by omega] at this
  have sh : SeqAt.shaped (pC c) = true := by
    unfold SeqAt.shaped
    rw [laC l, Bool.true_and]
    have := dpC ok
    exact decide_eq_true (by omega)
  have sh0 : SeqAt.shaped (.tuple []) = true := by decide +kernel
  obtain ⟨xs, ex⟩ := eC_tup c
  obtain ⟨p, ps, ep⟩ := pC_cons c
  have eb : eqB (eC c) (.tup []) h = some false := by
    have e2 : eqB (eC c) (.tup []) h = (match toPy 60 h (eC c), toPy 60 h (.tup []) with
      | some p, some q => if SeqAt.shaped p = true ∧ SeqAt.shaped q = true then some (PyData.eqv p q) else none
      | _, _ => none) := by rw [ex]; rfl
    have e3 : toPy 60 h (.tup []) = some (.tuple []) := rfl
    rw [e2, e1, e3]
    dsimp only
    rw [if_pos ⟨sh, sh0⟩, ep, PyData.eqv, PyData.eqvAll]
  unfold eqG
  rw [eb]; rfl
theorem ne_unit0 (h : HP) : eqG true (.tup []) (.tup []) h = some (.bl false, h) := by
  have sh0 : SeqAt.shaped (.tuple []) = true := by decide +kernel
  have eb : eqB (.tup []) (.tup []) h = some true := by
    have e2 : eqB (.tup []) (.tup []) h = (match toPy 60 h (.tup []), toPy 60 h (.tup []) with
      | some p, some q => if SeqAt.shaped p = true ∧ SeqAt.shaped q = true then some (PyData.eqv p q) else none
      | _, _ => none) := rfl
    have e3 : toPy 60 h (.tup []) = some (.tuple []) := rfl
    rw [e2, e3]
    dsimp only
    rw [if_pos ⟨sh0, sh0⟩, PyData.eqv, PyData.eqvAll]
  unfold eqG
  rw [eb]; rfl
end K13
end
section
set_option Elab.async false
set_option linter.all false
set_option maxRecDepth 100000
set_option maxHeartbeats 4000000
namespace K13
open PySem L2 PM
local macro_rules | `(tactic| walk_at "pm") => `(tactic| simp (config := { decide := true }) only [bind_ok, toS_ok, seq_nx, seq_rt, seq_bk, seq_ct, seq_exc, bind_exc, toS_exc, mSeq_ap, mNext_ap, mSet_ap, kSet_ap, mAsg_ap, kAsg_ap, ofS_some, gN_ap, gTup_ap, gCons_ap, gNil_ap, mDrop_ap, kDrop_ap, mRet_ap, mRetN_ap, mIfS_ap, kIf_t, kIf_f, mBreak_ap, mCont_ap, mBad_ap, mAug_ap, kAug_ap, mVar_ap, mC_ap, m1_ap, k1_ap, m2_ap, k2_ap, k2'_ap, ofO_some, mNil_ap, mCons_ap, kC_ap, kC'_ap, mCall_ap, mB_ap, kB_ap, mMeth_ap, kM_ap, kM'_ap, mTest_ap, kBl_ap, mNot_ap, kNot_ap, mAnd_ap, kAnd_t, kAnd_f, mOr_ap, kOr_t, kOr_f, mIfE_ap, kIfE_t, kIfE_f, mAndV_ap, kAndV_t, kAndV_f, mOrV_ap, kOrV_t, kOrV_f, mNotV_ap, kNotV_ap, mTup_ap, kTup_ap, mLst_ap, kLst_ap, mNoPart_ap, mPart_ap, kInt_ap, mSl_ap, kSl1_ap, kSl2_ap, kSl3_ap, mChain_ap, kCh0_ap, kCh1_ap, kCh2_t, kCh2_f, kCh3_ap, mPutD_ap, kP1_ap, kP2_ap, kP3_ap, runDef_ap, fin_nx, fin_rt, fin_exc, mYes_ap, add_ii, iadd_ii, add_ss, sub_ii, mul_ii, mul_si, mod_ii, fdiv_ii, pow_ii, neg_i, ord_ii, ord_ss, eq_ii, ne_ii, eq_ss, ne_ss, is_non, isn_non, int_i, len_s, len_t, min_ii, sl_s, in_c, nin_c, split_s, str1_ss, find4_s, ty_str, ord_c, iR1_ap, itR1_i, iS_ap, itS_s, iT_ap, itT_t, iE_ap, oD_some, len_r, oLen_l, oLen_r, oKey_s, it_ref, itH_r, itH_t, itH_s, oIH_d, oIH_l, oIH_r, tupF_r, oTupF_l, mTupF_ap, kTupF_ap, seq_t, seq_s, seq_r, oSeq_l, mStar_ap, kSt_ap, kSt1_s, kSt2_ap, lst_d, oLst_s, mTupRev_ap, kRev_t, kRev_s, len_st, min_l, oTy_t, oTy_d, isi_i, isi_s, mIdx_ap, kIx_s, kIxs_ap, kIx1_s, iA_ap, itA_t, itA_s, oItem_d, oItem_l, oItem_r, it_tup, oC_some, it_str, keyD_s, keyD_i, app_r, oApp_l, ext_r, oExt_l, ty_ref, oTy_l, isi_ref, oIsi_l, put_ref, oPut_d, oPutK_s, oBls_s, all_r, oAll_l, tup_r, oTup_l, itE_r, oEnum_l, slT_t, addL_r, oCat_l, lenQ_r, oLenQ_d, isiT_t, isiT_i, isiT_s, isiT_n, mInK_ap, kInK_s, mAtK_ap, kAtK_s, kAtK1_s, mPar_ap, kPar_ap, mPutJ_ap, kJ1_ap, kJ2_ap, mRaise_ap, kRaise_1, get1_r, List.map_cons, List.map_nil, List.length_cons, List.length_nil, List.replicate, List.cons_append, List.nil_append, List.set_cons_zero, List.set_cons_succ, List.getElem?_cons_zero, List.getElem?_cons_succ, Nat.reduceSub, Nat.reduceAdd, Nat.reduceLeDiff, Nat.reduceLT,  cond_true, cond_false, if_true, if_false, ite_true, ite_false, Bool.false_eq_true, reduceIte, Nat.zero_add, Option.bind_some, ne_eq, Int.reduceEq, not_false_eq_true, not_true_eq_false, decide_true, decide_false, Bool.not_true, Bool.not_false, *])

def lS (c : Co) : List Stp := (sC c).filter nb
def skip (d : D) : Prop := (∃ s, d = .str s) ∨ (∃ i, d = .int i) ∨ d = .non ∨ d = .tup []
inductive Pt where
  | sk (d : D) | sub (f : Co)
def dP : Pt → D
  | .sk d => d
  | .sub f => eC f
def sP : Pt → List Stp
  | .sk _ => []
  | .sub f => lS f
def okP (d : Nat) : Pt → Prop
  | .sk x => skip x
  | .sub f => okC f d ∧ lC f
theorem lS_len {c : Co} {d : Nat} (ok : okC c d) (hd : d ≤ 4) : (lS c).length ≤ 1240 := by
  have h1 := sC_len ok
  have h2 : (lS c).length ≤ (sC c).length := List.length_filter_le _ _
  have h3 : 2 ^ d ≤ 2 ^ 4 := Nat.pow_le_pow_right (by omega) hd
  have p : 2 ^ 4 = 16 := rfl
  omega
theorem ls_skip {ra : List D → HP → R D} {d : D} {h : HP} {x0 x1 x2 x3 x4 : Option D} (sk : skip d) : L_u_law_steps_1 ra [x0, x1, x2, x3, x4, some d] h = .nx [x0, x1, x2, x3, x4, some d] h := by
  unfold L_u_law_steps_1
  rcases sk with ⟨s, rfl⟩ | ⟨i, rfl⟩ | rfl | rfl
  · walk_at "pm"
  · walk_at "pm"
  · walk_at "pm"
  · have ne := ne_unit0
    walk_at "pm"
theorem ls_sub {ra : List D → HP → R D} {f : Co} {d : Nat} {A r1 : Nat} {h h1 : HP} {L L1 : List D} {x0 x1 x2 x3 : Option D} (ok : okC f d) (hd : d ≤ 4) (l : lC f) (hi : ra [eC f] h = .ok (.ref r1) h1) (eA : h1[A]? = some (.lst L)) (e1 : h1[r1]? = some (.lst L1)) (hl : L.length + L1.length ≤ 1000000) :
    L_u_law_steps_1 ra [x0, x1, x2, x3, some (.ref A), some (eC f)] h = .nx [x0, x1, x2, x3, some (.ref h1.length), some (eC f)] (h1 ++ [.lst (L ++ L1)]) := by
  have ne := ne_unit ok (by omega) l
  obtain ⟨xs, ex⟩ := eC_tup f
  have is : ∀ h, isiT [eC f, .ty "tuple"] h = some (.bl true, h) := fun h => by rw [ex]; rfl
  unfold L_u_law_steps_1
  clear ex ok l
  generalize eC f = z at *
  walk_at "pm"
def LsOk (n : Nat) : Prop := ∀ c d, okC c d → d < n → d ≤ 4 → lC c → ∀ h : HP, ∃ r h', m_u_law_steps n [eC c] h = .ok (.ref r) h' ∧ X0 h h' ∧ h'[r]? = some (.lst ((lS c).map eL))
theorem ls_loop {n : Nat} (ih : LsOk n) {x0 x1 x2 x3 : Option D} : ∀ {ps : List Pt} {d : Nat} {h : HP} {L : List D} {A : Nat} {x5 : Option D}, (∀ p ∈ ps, okP d p) → d < n → d ≤ 4 → h[A]? = some (.lst L) → L.length + (ps.flatMap sP).length ≤ 100000 →
    ∃ h' A' y5, mLoop (fun _ => True) (gN 5) (L_u_law_steps_1 (m_u_law_steps n)) (ps.map dP) [x0, x1, x2, x3, some (.ref A), x5] h = .nx [x0, x1, x2, x3, some (.ref A'), y5] h' ∧ X0 h h' ∧ h'[A']? = some (.lst (L ++ (ps.flatMap sP).map eL)) ∧ A ≤ A'
  | [], d, h, L, A, x5, _, _, _, e, _ => ⟨h, A, x5, mLoop_nil trivial, X0.refl _, by simpa using e, Nat.le_refl _⟩
  | .sk z :: ps, d, h, L, A, x5, ok, hn, hd, e, hl => by
    obtain ⟨h2, A2, y5, e2, x2', g2, b2⟩ := ls_loop ih (ps := ps) (x5 := some z) (fun p hp => ok p (List.mem_cons_of_mem _ hp)) hn hd e (by simpa [sP] using hl) (x0 := x0) (x1 := x1) (x2 := x2) (x3 := x3)
    exact ⟨h2, A2, y5, (mLoop_nx trivial rfl (.inl (ls_skip (ok (.sk z) List.mem_cons_self)))).trans e2, x2', by simpa [sP] using g2, b2⟩
  | .sub f :: ps, d, h, L, A, x5, ok, hn, hd, e, hl => by
    have okf := ok (.sub f) List.mem_cons_self
    rw [List.flatMap_cons, List.length_append] at hl
    have hl2 : L.length + ((lS f).length + (ps.flatMap sP).length) ≤ 100000 := hl
    obtain ⟨r1, h1, e1, x1', q1⟩ := ih f d okf.1 hn hd okf.2 h
    have st := ls_sub (x0 := x0) (x1 := x1) (x2 := x2) (x3 := x3) okf.1 hd okf.2 e1 (x1'.at' _ _ e) q1 (by simp; omega)
    obtain ⟨h2, A2, y5, e2, x2', g2, b2⟩ := ls_loop ih (ps := ps) (x5 := some (eC f)) (h := h1 ++ [.lst (L ++ (lS f).map eL)]) (A := h1.length) (L := L ++ (lS f).map eL) (fun p hp => ok p (List.mem_cons_of_mem _ hp)) hn hd last_get (by simp; simp at hl2; omega) (x0 := x0) (x1 := x1) (x2 := x2) (x3 := x3)
    refine ⟨h2, A2, y5, (mLoop_nx trivial rfl (.inl st)).trans e2, (x1'.trans (X0.app _ _)).trans x2', ?_, ?_⟩
    · rw [g2, List.flatMap_cons, List.map_append, ← List.append_assoc]
      rfl
    · have := x1'.len; have := get_lt e; omega
/-- the loop over the parts -/
theorem ls_mf {n d : Nat} (ih : LsOk n) {w : Str} {ds : List D} {ps : List Pt} (hr : ds = ps.map dP) (ok : ∀ p ∈ ps, okP d p) (hn : ps ≠ [] → d < n) (hd : d ≤ 4) (hl : (ps.flatMap sP).length ≤ 10000) (h : HP) :
    ∃ h' A' y5, mFor (iA (mSl slT (mVar 0) (mPart (mC (.int 1))) mNoPart)) (gN 5) (L_u_law_steps_1 (m_u_law_steps n)) [some (.tup (.str w :: ds)), some (.str w), none, none, some (.ref h.length), none] (h ++ [Ob.lst []]) = .nx [some (.tup (.str w :: ds)), some (.str w), none, none, some (.ref A'), y5] h' ∧ X0 h h' ∧ h'[A']? = some (.lst ((ps.flatMap sP).map eL)) ∧ h.length ≤ A' := by
  have ei : iA (mSl slT (mVar 0) (mPart (mC (.int 1))) mNoPart) [some (.tup (.str w :: ds)), some (.str w), none, none, some (.ref h.length), none] (h ++ [Ob.lst []]) = .ok (ps.map dP, fun _ => True) (h ++ [Ob.lst []]) := by
    have : iA (mSl slT (mVar 0) (mPart (mC (.int 1))) mNoPart) [some (.tup (.str w :: ds)), some (.str w), none, none, some (.ref h.length), none] (h ++ [Ob.lst []]) = .ok (cutD (.str w :: ds) (some 1) none, fun _ => True) (h ++ [Ob.lst []]) := rfl
    rw [this]
    have cd : cutD (.str w :: ds) (some 1) none = ds := by
      have hs : HT.sIx (ds.length + 1) 0 (some 1) = 1 := by
        unfold HT.sIx
        simp
      have he : HT.sIx (ds.length + 1) (ds.length + 1) none = ds.length + 1 := rfl
      unfold cutD
      rw [List.length_cons, hs, he]
      simp
    rw [cd, hr]
  obtain ⟨h', A', y5, e1, x1, g1, b1⟩ : ∃ h' A' y5, mLoop (fun _ => True) (gN 5) (L_u_law_steps_1 (m_u_law_steps n)) (ps.map dP) [some (.tup (.str w :: ds)), some (.str w), none, none, some (.ref h.length), none] (h ++ [Ob.lst []]) = .nx [some (.tup (.str w :: ds)), some (.str w), none, none, some (.ref A'), y5] h' ∧ X0 (h ++ [Ob.lst []]) h' ∧ h'[A']? = some (.lst ([] ++ (ps.flatMap sP).map eL)) ∧ h.length ≤ A' := by
    by_cases hp : ps = []
    · subst hp
      exact ⟨_, _, none, mLoop_nil trivial, X0.refl _, last_get, Nat.le_refl _⟩
    · exact ls_loop ih ok (hn hp) hd last_get (by simp; simp at hl; omega)
  rw [List.nil_append] at g1
  exact ⟨h', A', y5, (mFor_ok ei).trans e1, (X0.app _ _).trans x1, g1, b1⟩
/-- a rule that is no event, compare or group -/
theorem ls_rest {n d : Nat} (ih : LsOk n) {w : Str} {ds : List D} {ps : List Pt} (hr : ds = ps.map dP) (h1 : (w = "event") = False) (h2 : (w = "compare") = False) (h4 : (w = "group") = False) (ok : ∀ p ∈ ps, okP d p) (hn : ps ≠ [] → d < n) (hd : d ≤ 4) (hl : (ps.flatMap sP).length ≤ 10000) (h : HP) :
    ∃ r h', m_u_law_steps (n + 1) [.tup (.str w :: ds)] h = .ok (.ref r) h' ∧ X0 h h' ∧ h'[r]? = some (.lst ((ps.flatMap sP).map eL)) := by
  obtain ⟨h', A', y5, mf, x1, g1, _⟩ := ls_mf ih (w := w) hr ok hn hd hl h
  refine ⟨A', h', ?_, x1, g1⟩
  have a0 := @at0 (.str w) ds
  show runDef 6 (b_u_law_steps (m_u_law_steps n)) [.tup (.str w :: ds)] h = _
  unfold b_u_law_steps
  clear g1 x1 ih hr hl
  walk_at "pm"
end K13
end
section
set_option Elab.async false
set_option linter.all false
set_option maxRecDepth 100000
set_option maxHeartbeats 4000000
namespace K13
open PySem L2 PM
local macro_rules | `(tactic| walk_at "pm") => `(tactic| simp (config := { decide := true }) only [bind_ok, toS_ok, seq_nx, seq_rt, seq_bk, seq_ct, seq_exc, bind_exc, toS_exc, mSeq_ap, mNext_ap, mSet_ap, kSet_ap, mAsg_ap, kAsg_ap, ofS_some, gN_ap, gTup_ap, gCons_ap, gNil_ap, mDrop_ap, kDrop_ap, mRet_ap, mRetN_ap, mIfS_ap, kIf_t, kIf_f, mBreak_ap, mCont_ap, mBad_ap, mAug_ap, kAug_ap, mVar_ap, mC_ap, m1_ap, k1_ap, m2_ap, k2_ap, k2'_ap, ofO_some, mNil_ap, mCons_ap, kC_ap, kC'_ap, mCall_ap, mB_ap, kB_ap, mMeth_ap, kM_ap, kM'_ap, mTest_ap, kBl_ap, mNot_ap, kNot_ap, mAnd_ap, kAnd_t, kAnd_f, mOr_ap, kOr_t, kOr_f, mIfE_ap, kIfE_t, kIfE_f, mAndV_ap, kAndV_t, kAndV_f, mOrV_ap, kOrV_t, kOrV_f, mNotV_ap, kNotV_ap, mTup_ap, kTup_ap, mLst_ap, kLst_ap, mNoPart_ap, mPart_ap, kInt_ap, mSl_ap, kSl1_ap, kSl2_ap, kSl3_ap, mChain_ap, kCh0_ap, kCh1_ap, kCh2_t, kCh2_f, kCh3_ap, mPutD_ap, kP1_ap, kP2_ap, kP3_ap, runDef_ap, fin_nx, fin_rt, fin_exc, mYes_ap, add_ii, iadd_ii, add_ss, sub_ii, mul_ii, mul_si, mod_ii, fdiv_ii, pow_ii, neg_i, ord_ii, ord_ss, eq_ii, ne_ii, eq_ss, ne_ss, is_non, isn_non, int_i, len_s, len_t, min_ii, sl_s, in_c, nin_c, split_s, str1_ss, find4_s, ty_str, ord_c, iR1_ap, itR1_i, iS_ap, itS_s, iT_ap, itT_t, iE_ap, oD_some, len_r, oLen_l, oLen_r, oKey_s, it_ref, itH_r, itH_t, itH_s, oIH_d, oIH_l, oIH_r, tupF_r, oTupF_l, mTupF_ap, kTupF_ap, seq_t, seq_s, seq_r, oSeq_l, mStar_ap, kSt_ap, kSt1_s, kSt2_ap, lst_d, oLst_s, mTupRev_ap, kRev_t, kRev_s, len_st, min_l, oTy_t, oTy_d, isi_i, isi_s, mIdx_ap, kIx_s, kIxs_ap, kIx1_s, iA_ap, itA_t, itA_s, oItem_d, oItem_l, oItem_r, it_tup, oC_some, it_str, keyD_s, keyD_i, app_r, oApp_l, ext_r, oExt_l, ty_ref, oTy_l, isi_ref, oIsi_l, put_ref, oPut_d, oPutK_s, oBls_s, all_r, oAll_l, tup_r, oTup_l, itE_r, oEnum_l, slT_t, addL_r, oCat_l, lenQ_r, oLenQ_d, isiT_t, isiT_i, isiT_s, isiT_n, mInK_ap, kInK_s, mAtK_ap, kAtK_s, kAtK1_s, mPar_ap, kPar_ap, mPutJ_ap, kJ1_ap, kJ2_ap, mRaise_ap, kRaise_1, get1_r, List.map_cons, List.map_nil, List.length_cons, List.length_nil, List.replicate, List.cons_append, List.nil_append, List.set_cons_zero, List.set_cons_succ, List.getElem?_cons_zero, List.getElem?_cons_succ, Nat.reduceSub, Nat.reduceAdd, Nat.reduceLeDiff, Nat.reduceLT,  cond_true, cond_false, if_true, if_false, ite_true, ite_false, Bool.false_eq_true, reduceIte, Nat.zero_add, Option.bind_some, ne_eq, Int.reduceEq, not_false_eq_true, not_true_eq_false, decide_true, decide_false, Bool.not_true, Bool.not_false, *])

/-! events -/
def e1H (h : HP) : HP := h ++ [Ob.dic []]
def e2H (h : HP) : HP := e1H h ++ [Ob.lst [.str "number"]]
def e3H (h : HP) : HP := e2H h ++ [Ob.lst [.str "word", .str "number"]]
def evD (h : HP) : List (Key × D) := [(.inr "p", .ref (e1H h).length), (.inr "q", .ref (e2H h).length)]
def evH (h : HP) : HP := (e3H h).set h.length (.dic (evD h))
noncomputable def evE : ME := mDisp [(mC (.str "p"), mLst (mCons (mC (.str "number")) (mNil))), (mC (.str "q"), mLst (mCons (mC (.str "word")) (mCons (mC (.str "number")) (mNil))))]
theorem ev_disp {s : SD} {h : HP} : evE s h = .ok (.ref h.length) (evH h) := by
  refine disp_ok (qs := [(.str "p", .ref (e1H h).length), (.str "q", .ref (e2H h).length)]) (h2 := e3H h) (kvs := evD h) (kvs' := evD h) ?_ ?_ rfl rfl (by show 2 ≤ 15; omega)
  · have e1 : h ++ [Ob.dic []] = e1H h := rfl
    have e2 : e1H h ++ [Ob.lst [.str "number"]] = e2H h := rfl
    have e3 : e2H h ++ [Ob.lst [.str "word", .str "number"]] = e3H h := rfl
    simp only [mPairs]
    walk_at "pm"
  · unfold e3H e2H e1H
    exact (X0.app _ _).at' _ _ ((X0.app _ _).at' _ _ last_get)
theorem ev_x (h : HP) : X0 h (evH h) := (((X0.app h [Ob.dic []]).trans (X0.app _ [Ob.lst [.str "number"]])).trans (X0.app _ [Ob.lst [.str "word", .str "number"]])).set (Nat.le_refl _) _
theorem ev_0 (h : HP) : (evH h)[h.length]? = some (.dic (evD h)) := List.getElem?_set_self (by unfold e3H e2H e1H; simp)
theorem ev_1 (h : HP) : (evH h)[(e1H h).length]? = some (.lst [.str "number"]) := by
  unfold evH
  rw [List.getElem?_set_ne (by unfold e1H; simp)]
  exact (X0.app _ _).at' _ _ last_get
theorem ev_2 (h : HP) : (evH h)[(e2H h).length]? = some (.lst [.str "word", .str "number"]) := by
  unfold evH
  rw [List.getElem?_set_ne (by unfold e2H e1H; simp)]
  exact last_get
def evF (bs ks : List D) (z : Str) (d : D) : D := match d with
  | .int i => .tup [.str "is", bs.getD i.toNat .non, ks.getD i.toNat .non, .str z]
  | _ => .non
theorem ls_ev {n : Nat} {z : Str} {ks bs : List D} {rk : Nat} (h : HP) (gz : getK (evD h) (.inr z) = some (.ref rk)) (gk : (evH h)[rk]? = some (.lst ks)) (hl : ks.length ≤ 2) (hb : bs.length = ks.length) :
    ∃ r h', m_u_law_steps (n + 1) [.tup [.str "event", .str z, .tup bs]] h = .ok (.ref r) h' ∧ X0 h h' ∧ h'[r]? = some (.lst ((List.range ks.length).map fun i => .tup [.str "is", bs.getD i .non, ks.getD i .non, .str z])) := by
  have a0 := @at0 (.str "event") [.str z, .tup bs]
  have a1 := @at1 (.str "event") (.str z) [.tup bs]
  have a2 := @at2 (.str "event") (.str z) (.tup bs) []
  have ei : iR1 (mCons (mB lenG (mCons (mVar 2) (mNil))) (mNil)) [some (.tup [.str "event", .str z, .tup bs]), some (.str "event"), some (.ref rk), none, none, none] (evH h) = .ok ((List.range ks.length).map fun (i : Nat) => .int (0 + i), fun _ => True) (evH h) := by
    have rr : itR1 [.int (ks.length : Int)] (evH h) = .ok ((List.range ks.length).map fun (i : Nat) => .int (0 + i), fun _ => True) (evH h) := by
      rw [itR1_i ⟨by omega, by omega⟩, Int.toNat_natCast]
    clear a0 a1 a2 gz
    walk_at "pm"
  have q := mLcG_ok (tg := .one 3) (cc := mYes) (el := mTup (mCons (mC (.str "is")) (mCons (m2 itemH (m2 itemH (mVar 0) (mC (.int 2))) (mVar 3)) (mCons (m2 itemH (mVar 2) (mVar 3)) (mCons (m2 itemH (mVar 0) (mC (.int 1))) (mNil)))))) ei
  obtain ⟨h', e1, at1'⟩ := cl_all (h0 := evH h) (G := fun _ => True) (tg := .one 3) (el := mTup (mCons (mC (.str "is")) (mCons (m2 itemH (m2 itemH (mVar 0) (mC (.int 2))) (mVar 3)) (mCons (m2 itemH (mVar 2) (mVar 3)) (mCons (m2 itemH (mVar 0) (mC (.int 1))) (mNil))))))
    (s := [some (.tup [.str "event", .str z, .tup bs]), some (.str "event"), some (.ref rk), none, none, none]) (f := evF bs ks z) (fun _ _ => trivial) (ds := (List.range ks.length).map fun (i : Nat) => .int (0 + i))
    (fun d hd h3 x3 => by
      obtain ⟨i, hi, rfl⟩ := List.mem_map.mp hd
      have hi := List.mem_range.mp hi
      refine ⟨_, h3, rfl, ?_, X0.refl _⟩
      have hi0 : ((0 : Int) + (i : Int)).toNat = i := by omega
      have gk3 := x3.at' _ _ gk
      have ab : atI bs (0 + (i : Int)) = some (bs.getD i .non) := by
        rw [Int.zero_add]
        refine atI_nat ?_
        rw [List.getD_eq_getElem?_getD, List.getElem?_eq_getElem (by omega)]; rfl
      have ak : atI ks (0 + (i : Int)) = some (ks.getD i .non) := by
        rw [Int.zero_add]
        refine atI_nat ?_
        rw [List.getD_eq_getElem?_getD, List.getElem?_eq_getElem (by omega)]; rfl
      show mTup (mCons (mC (.str "is")) (mCons (m2 itemH (m2 itemH (mVar 0) (mC (.int 2))) (mVar 3)) (mCons (m2 itemH (mVar 2) (mVar 3)) (mCons (m2 itemH (mVar 0) (mC (.int 1))) (mNil))))) [some (.tup [.str "event", .str z, .tup bs]), some (.str "event"), some (.ref rk), some (.int (0 + (i : Int))), none, none] h3 = .ok (.tup [.str "is", bs.getD ((0 : Int) + (i : Int)).toNat .non, ks.getD ((0 : Int) + (i : Int)).toNat .non, .str z]) h3
      rw [hi0]
      generalize bs.getD i .non = b at *
      generalize ks.getD i .non = k at *
      generalize (0 : Int) + (i : Int) = j at *
      clear q ei gk x3 a0
      walk_at "pm") (by simp; omega)
  have em : ((List.range ks.length).map fun (i : Nat) => D.int (0 + i)).map (evF bs ks z) = (List.range ks.length).map fun i => .tup [.str "is", bs.getD i .non, ks.getD i .non, .str z] := by
    rw [List.map_map]
    refine List.map_congr_left fun i _ => ?_
    show D.tup [.str "is", bs.getD ((0 : Int) + (i : Int)).toNat .non, ks.getD ((0 : Int) + (i : Int)).toNat .non, .str z] = _
    rw [show ((0 : Int) + (i : Int)).toNat = i by omega]
  rw [em] at at1'
  refine ⟨_, h', ?_, (ev_x h).trans at1'.1, at1'.2⟩
  have e3 := q.trans e1
  have ds := @ev_disp
  have g0 := ev_0 h
  have ksz := ki_s z
  show runDef 6 (b_u_law_steps (m_u_law_steps n)) [.tup [.str "event", .str z, .tup bs]] h = _
  unfold b_u_law_steps
  unfold evE at ds
  clear q e1 ei at1' em gk
  walk_at "pm"
/-! a compare -/
theorem ls_cmp {n : Nat} {sg : Str} {l r : Tm} (ol : okT l 2) (or : okT r 2) (h : HP) : ∃ q h', m_u_law_steps (n + 1) [eC (.cmp sg l r)] h = .ok (.ref q) h' ∧ X0 h h' ∧ h'[q]? = some (.lst ((lS (.cmp sg l r)).map eL)) := by
  have n1 := sT_len ol
  have n2 := sT_len or
  have p : 2 ^ (2 + 2) = 16 := rfl
  obtain ⟨r1, h1, e1, x1, q1, b1⟩ := lts_ok 20 l 2 ol (by omega) h (by omega)
  have a0 := @at0 (.str "compare") [.str sg, eT l, eT r]
  have a1 := @at1 (.str "compare") (.str sg) [eT l, eT r]
  have a2 := @at2 (.str "compare") (.str sg) (eT l) [eT r]
  have a3 := @at3 (.str "compare") (.str sg) (eT l) (eT r) []
  have one : ∀ x : D, [x].length = 1 := fun _ => rfl
  by_cases c : sg = "="
  · subst c
    obtain ⟨r2, h2, e2, x2, q2, b2⟩ := lts_ok 20 r 2 or (by omega) h1 (by omega)
    have q1' := x2.at' _ _ q1
    have l1 : ((sT l).map eL).length + ((sT r).map eL).length ≤ 1000000 := by simp; omega
    have g3 : (h2 ++ [Ob.lst ((sT l).map eL ++ (sT r).map eL)])[h2.length]? = some (.lst ((sT l).map eL ++ (sT r).map eL)) := last_get
    have x4 : X0 (h2 ++ [Ob.lst ((sT l).map eL ++ (sT r).map eL)]) ((h2 ++ [Ob.lst ((sT l).map eL ++ (sT r).map eL)]) ++ [Ob.lst [eL (.alike l r)]]) := X0.app _ _
    have g4 := x4.at' _ _ g3
    have g5 : ((h2 ++ [Ob.lst ((sT l).map eL ++ (sT r).map eL)]) ++ [Ob.lst [eL (.alike l r)]])[(h2 ++ [Ob.lst ((sT l).map eL ++ (sT r).map eL)]).length]? = some (.lst [eL (.alike l r)]) := last_get
    have l2 : ((sT l).map eL ++ (sT r).map eL).length + 1 ≤ 1000000 := by simp; omega
    have ls : lS (.cmp "=" l r) = sT l ++ (sT r ++ [.alike l r]) := by
      unfold lS sC
      rw [if_pos rfl, List.filter_append, List.filter_append, sT_nb, sT_nb]
      rfl
    refine ⟨_, ((h2 ++ [Ob.lst ((sT l).map eL ++ (sT r).map eL)]) ++ [Ob.lst [eL (.alike l r)]]) ++ [Ob.lst (((sT l).map eL ++ (sT r).map eL) ++ [eL (.alike l r)])], ?_, ((x1.trans x2).trans (X0.app _ _)).trans (x4.trans (X0.app _ _)), by rw [last_get, ls]; simp⟩
    have el : eL (.alike l r) = .tup [.str "same", eT l, eT r, .str "="] := rfl
    rw [el] at g4 g5 ⊢
    show runDef 6 (b_u_law_steps (m_u_law_steps n)) [.tup [.str "compare", .str "=", eT l, eT r]] h = _
    unfold b_u_law_steps
    clear x1 x2 x4 q1 b1 b2 el ls ol or n1 n2
    generalize eT l = zl at *
    generalize eT r = zr at *
    generalize (sT l).map eL = nl at *
    generalize (sT r).map eL = nr at *
    walk_at "pm"
  · have c' := eq_false c
    have ls : lS (.cmp sg l r) = sT l ++ .need "number" l sg :: (sT r ++ [.need "number" r sg]) := by
      unfold lS sC
      rw [if_neg c]
      unfold sS
      rw [List.filter_append, List.filter_cons_of_pos rfl, List.filter_append, sT_nb, sT_nb]
      rfl
    have l0 : ((sT l).map eL).length < 1000000 := by simp; omega
    have q2 : (h1.set r1 (.lst ((sT l).map eL ++ [eL (.need "number" l sg)])))[r1]? = some (.lst ((sT l).map eL ++ [eL (.need "number" l sg)])) := List.getElem?_set_self (get_lt q1)
    have x2 : X0 h (h1.set r1 (.lst ((sT l).map eL ++ [eL (.need "number" l sg)]))) := x1.set b1 _
    obtain ⟨r3, h3, e3, x3, q3, b3⟩ := lts_ok 20 r 2 or (by omega) (h1.set r1 (.lst ((sT l).map eL ++ [eL (.need "number" l sg)]))) (by omega)
    have q2' := x3.at' _ _ q2
    generalize hLL : (sT l).map eL ++ [eL (.need "number" l sg)] = LL at *
    have lLL : LL.length = (sT l).length + 1 := by rw [← hLL]; simp
    have l1 : LL.length + ((sT r).map eL).length ≤ 1000000 := by rw [lLL]; simp; omega
    have g3 : (h3 ++ [Ob.lst (LL ++ (sT r).map eL)])[h3.length]? = some (.lst (LL ++ (sT r).map eL)) := last_get
    have x4 : X0 (h3 ++ [Ob.lst (LL ++ (sT r).map eL)]) ((h3 ++ [Ob.lst (LL ++ (sT r).map eL)]) ++ [Ob.lst [eL (.need "number" r sg)]]) := X0.app _ _
    have g4 := x4.at' _ _ g3
    have g5 : ((h3 ++ [Ob.lst (LL ++ (sT r).map eL)]) ++ [Ob.lst [eL (.need "number" r sg)]])[(h3 ++ [Ob.lst (LL ++ (sT r).map eL)]).length]? = some (.lst [eL (.need "number" r sg)]) := last_get
    have l2 : (LL ++ (sT r).map eL).length + 1 ≤ 1000000 := by rw [List.length_append, lLL]; simp; omega
    refine ⟨_, ((h3 ++ [Ob.lst (LL ++ (sT r).map eL)]) ++ [Ob.lst [eL (.need "number" r sg)]]) ++ [Ob.lst ((LL ++ (sT r).map eL) ++ [eL (.need "number" r sg)])], ?_, ((x2.trans x3).trans (X0.app _ _)).trans (x4.trans (X0.app _ _)), by rw [last_get, ls, ← hLL]; simp⟩
    have el1 : eL (.need "number" l sg) = .tup [.str "is", eT l, .str "number", .str sg] := rfl
    have el2 : eL (.need "number" r sg) = .tup [.str "is", eT r, .str "number", .str sg] := rfl
    rw [el2] at g4 g5 ⊢
    rw [el1] at hLL
    show runDef 6 (b_u_law_steps (m_u_law_steps n)) [.tup [.str "compare", .str sg, eT l, eT r]] h = _
    unfold b_u_law_steps
    clear x1 x2 x3 x4 b1 b3 el1 el2 ls ol or n1 n2 c lLL
    generalize eT l = zl at *
    generalize eT r = zr at *
    generalize (sT l).map eL = nl at *
    generalize (sT r).map eL = nr at *
    walk_at "pm"
end K13
end
section
set_option Elab.async false
set_option linter.all false
set_option maxRecDepth 100000
set_option maxHeartbeats 4000000
namespace K13
open PySem L2 PM
local macro_rules | `(tactic| walk_at "pm") => `(tactic| simp (config := { decide := true }) only [bind_ok, toS_ok, seq_nx, seq_rt, seq_bk, seq_ct, seq_exc, bind_exc, toS_exc, mSeq_ap, mNext_ap, mSet_ap, kSet_ap, mAsg_ap, kAsg_ap, ofS_some, gN_ap, gTup_ap, gCons_ap, gNil_ap, mDrop_ap, kDrop_ap, mRet_ap, mRetN_ap, mIfS_ap, kIf_t, kIf_f, mBreak_ap, mCont_ap, mBad_ap, mAug_ap, kAug_ap, mVar_ap, mC_ap, m1_ap, k1_ap, m2_ap, k2_ap, k2'_ap, ofO_some, mNil_ap, mCons_ap, kC_ap, kC'_ap, mCall_ap, mB_ap, kB_ap, mMeth_ap, kM_ap, kM'_ap, mTest_ap, kBl_ap, mNot_ap, kNot_ap, mAnd_ap, kAnd_t, kAnd_f, mOr_ap, kOr_t, kOr_f, mIfE_ap, kIfE_t, kIfE_f, mAndV_ap, kAndV_t, kAndV_f, mOrV_ap, kOrV_t, kOrV_f, mNotV_ap, kNotV_ap, mTup_ap, kTup_ap, mLst_ap, kLst_ap, mNoPart_ap, mPart_ap, kInt_ap, mSl_ap, kSl1_ap, kSl2_ap, kSl3_ap, mChain_ap, kCh0_ap, kCh1_ap, kCh2_t, kCh2_f, kCh3_ap, mPutD_ap, kP1_ap, kP2_ap, kP3_ap, runDef_ap, fin_nx, fin_rt, fin_exc, mYes_ap, add_ii, iadd_ii, add_ss, sub_ii, mul_ii, mul_si, mod_ii, fdiv_ii, pow_ii, neg_i, ord_ii, ord_ss, eq_ii, ne_ii, eq_ss, ne_ss, is_non, isn_non, int_i, len_s, len_t, min_ii, sl_s, in_c, nin_c, split_s, str1_ss, find4_s, ty_str, ord_c, iR1_ap, itR1_i, iS_ap, itS_s, iT_ap, itT_t, iE_ap, oD_some, len_r, oLen_l, oLen_r, oKey_s, it_ref, itH_r, itH_t, itH_s, oIH_d, oIH_l, oIH_r, tupF_r, oTupF_l, mTupF_ap, kTupF_ap, seq_t, seq_s, seq_r, oSeq_l, mStar_ap, kSt_ap, kSt1_s, kSt2_ap, lst_d, oLst_s, mTupRev_ap, kRev_t, kRev_s, len_st, min_l, oTy_t, oTy_d, isi_i, isi_s, mIdx_ap, kIx_s, kIxs_ap, kIx1_s, iA_ap, itA_t, itA_s, oItem_d, oItem_l, oItem_r, it_tup, oC_some, it_str, keyD_s, keyD_i, app_r, oApp_l, ext_r, oExt_l, ty_ref, oTy_l, isi_ref, oIsi_l, put_ref, oPut_d, oPutK_s, oBls_s, all_r, oAll_l, tup_r, oTup_l, itE_r, oEnum_l, slT_t, addL_r, oCat_l, lenQ_r, oLenQ_d, isiT_t, isiT_i, isiT_s, isiT_n, mInK_ap, kInK_s, mAtK_ap, kAtK_s, kAtK1_s, mPar_ap, kPar_ap, mPutJ_ap, kJ1_ap, kJ2_ap, mRaise_ap, kRaise_1, get1_r, List.map_cons, List.map_nil, List.length_cons, List.length_nil, List.replicate, List.cons_append, List.nil_append, List.set_cons_zero, List.set_cons_succ, List.getElem?_cons_zero, List.getElem?_cons_succ, Nat.reduceSub, Nat.reduceAdd, Nat.reduceLeDiff, Nat.reduceLT,  cond_true, cond_false, if_true, if_false, ite_true, ite_false, Bool.false_eq_true, reduceIte, Nat.zero_add, Option.bind_some, ne_eq, Int.reduceEq, not_false_eq_true, not_true_eq_false, decide_true, decide_false, Bool.not_true, Bool.not_false, *])

theorem lS_grp {own fn : Str} {val : Option Str} {f : Co} : lS (.grp own fn val f) = lS f ++ .need "number" (.nm own) fn :: sV fn val := by
  unfold lS
  rw [sC, List.filter_append, List.filter_cons_of_pos rfl]
  cases val <;> rfl
theorem ls_ok : ∀ n, LsOk n
  | 0 => fun _ _ _ hn => by omega
  | n + 1 => by
    have ih := ls_ok n
    intro c d ok hn hd l h
    cases c with
    | ev1 b => exact ls_ev (z := "p") (ks := [.str "number"]) (bs := [eT b]) h rfl (ev_1 h) (by simp) rfl
    | ev2 a b => exact ls_ev (z := "q") (ks := [.str "word", .str "number"]) (bs := [eT a, eT b]) h rfl (ev_2 h) (by simp) rfl
    | cmp sg l r => exact ls_cmp ok.1 ok.2 h
    | tru => exact ls_rest (d := 0) (w := "true") (ds := []) (ps := []) ih rfl (by simp; decide) (by simp; decide) (by simp; decide) (fun _ h => by cases h) (fun h => absurd rfl h) (by omega) (by simp) h
    | not f =>
      obtain ⟨k, rfl, hf⟩ := ok
      have hl := lS_len hf (by omega)
      have := ls_rest (d := k) (w := "not") (ds := [eC f]) (ps := [.sub f]) ih rfl (by simp; decide) (by simp; decide) (by simp; decide) (fun p hp => by simp at hp; subst hp; exact ⟨hf, l⟩) (fun _ => by omega) (by omega) (by simp [sP]; omega) h
      simpa [sP, eC, lS, sC] using this
    | two o f g =>
      obtain ⟨k, rfl, hf, hg⟩ := ok
      have hl := lS_len hf (by omega)
      have hl2 := lS_len hg (by omega)
      have := ls_rest (d := k) (w := tw o) (ds := [eC f, eC g]) (ps := [.sub f, .sub g]) ih rfl (by cases o <;> (simp [tw]; decide)) (by cases o <;> (simp [tw]; decide)) (by cases o <;> (simp [tw]; decide)) (fun p hp => by simp at hp; rcases hp with rfl | rfl; exact ⟨hf, l.1⟩; exact ⟨hg, l.2⟩) (fun _ => by omega) (by omega) (by simp [sP]; omega) h
      simpa [sP, eC, lS, sC] using this
    | som x f =>
      obtain ⟨k, rfl, hf⟩ := ok
      have hl := lS_len hf (by omega)
      have := ls_rest (d := k) (w := "some") (ds := [.str x, eC f]) (ps := [.sk (.str x), .sub f]) ih rfl (by simp; decide) (by simp; decide) (by simp; decide) (fun p hp => by simp at hp; rcases hp with rfl | rfl; exact .inl ⟨_, rfl⟩; exact ⟨hf, l.2⟩) (fun _ => by omega) (by omega) (by simp [sP]; omega) h
      have e : lS (.som x f) = lS f := rfl
      rw [e]
      simpa [sP, eC] using this
    | bef f =>
      obtain ⟨k, rfl, hf⟩ := ok
      have hl := lS_len hf (by omega)
      have := ls_rest (d := k) (w := "before") (ds := [.int 0, .int 5, eC f]) (ps := [.sk (.int 0), .sk (.int 5), .sub f]) ih rfl (by simp; decide) (by simp; decide) (by simp; decide) (fun p hp => by simp at hp; rcases hp with rfl | rfl | rfl; exact .inr (.inl ⟨_, rfl⟩); exact .inr (.inl ⟨_, rfl⟩); exact ⟨hf, l⟩) (fun _ => by omega) (by omega) (by simp [sP]; omega) h
      simpa [sP, eC, lS, sC] using this
    | unt f g =>
      obtain ⟨k, rfl, hf, hg⟩ := ok
      have hl := lS_len hf (by omega)
      have hl2 := lS_len hg (by omega)
      have := ls_rest (d := k) (w := "until") (ds := [.int 0, .int 5, eC f, eC g]) (ps := [.sk (.int 0), .sk (.int 5), .sub f, .sub g]) ih rfl (by simp; decide) (by simp; decide) (by simp; decide) (fun p hp => by simp at hp; rcases hp with rfl | rfl | rfl | rfl; exact .inr (.inl ⟨_, rfl⟩); exact .inr (.inl ⟨_, rfl⟩); exact ⟨hf, l.1⟩; exact ⟨hg, l.2⟩) (fun _ => by omega) (by omega) (by simp [sP]; omega) h
      simpa [sP, eC, lS, sC] using this
    | grp own fn val f =>
      obtain ⟨k, rfl, hf⟩ := ok
      have hl := lS_len hf (by omega)
      obtain ⟨h1, A, y5, mf, x1, g1, b1⟩ := ls_mf (d := k) (w := "group") (ds := [.str own, .str fn, eV val, .tup [], eC f]) (ps := [.sk (.str own), .sk (.str fn), .sk (eV val), .sk (.tup []), .sub f]) ih rfl
        (fun p hp => by simp at hp; rcases hp with rfl | rfl | rfl | rfl | rfl; exact .inl ⟨_, rfl⟩; exact .inl ⟨_, rfl⟩; exact (by cases val; exact .inr (.inr (.inl rfl)); exact .inl ⟨_, rfl⟩); exact .inr (.inr (.inr rfl)); exact ⟨hf, l.2.2.2⟩) (fun _ => by omega) (by omega) (by simp [sP]; omega) h
      replace g1 : h1[A]? = some (.lst ((lS f).map eL)) := by simpa [sP] using g1
      have l1 : ((lS f).map eL).length < 1000000 := by simp; omega
      have a0 := @at0 (.str "group") [.str own, .str fn, eV val, .tup [], eC f]
      have a1 := @at1 (.str "group") (.str own) [.str fn, eV val, .tup [], eC f]
      have a2 := @at2 (.str "group") (.str own) (.str fn) [eV val, .tup [], eC f]
      have a3 := @at3 (.str "group") (.str own) (.str fn) (eV val) [.tup [], eC f]
      have g2 : (h1.set A (.lst ((lS f).map eL ++ [eL (.need "number" (.nm own) fn)])))[A]? = some (.lst ((lS f).map eL ++ [eL (.need "number" (.nm own) fn)])) := List.getElem?_set_self (get_lt g1)
      have l2 : ((lS f).map eL ++ [eL (.need "number" (.nm own) fn)]).length < 1000000 := by simp; omega
      rw [lS_grp]
      have el : ∀ x, eL (.need "number" (.nm x) fn) = .tup [.str "is", .tup [.str "name", .str x], .str "number", .str fn] := fun _ => rfl
      cases val with
      | none =>
        refine ⟨A, h1.set A (.lst ((lS f).map eL ++ [eL (.need "number" (.nm own) fn)])), ?_, x1.set b1 _, by rw [g2]; simp [sV]⟩
        have nn : PM.isNon (eV none) = true := rfl
        rw [el] at g2 l2 ⊢
        show runDef 6 (b_u_law_steps (m_u_law_steps n)) [.tup [.str "group", .str own, .str fn, eV none, .tup [], eC f]] h = _
        unfold b_u_law_steps
        clear x1 b1 el ih hl l
        generalize eC f = zf at *
        generalize (lS f).map eL = LL at *
        walk_at "pm"
      | some v =>
        refine ⟨A, (h1.set A (.lst ((lS f).map eL ++ [eL (.need "number" (.nm own) fn)]))).set A (.lst (((lS f).map eL ++ [eL (.need "number" (.nm own) fn)]) ++ [eL (.need "number" (.nm v) fn)])), ?_, (x1.set b1 _).set b1 _, by rw [List.getElem?_set_self (get_lt g2)]; simp [sV]⟩
        have nn : PM.isNon (eV (some v)) = false := rfl
        rw [el] at g2 l2 ⊢
        rw [el]
        have ev : eV (some v) = .str v := rfl
        rw [ev] at mf a0 a1 a2 a3 nn
        show runDef 6 (b_u_law_steps (m_u_law_steps n)) [.tup [.str "group", .str own, .str fn, .str v, .tup [], eC f]] h = _
        unfold b_u_law_steps
        clear x1 b1 el ih hl l
        generalize eC f = zf at *
        generalize (lS f).map eL = LL at *
        walk_at "pm"
end K13
end
section
set_option Elab.async false
set_option linter.all false
set_option maxRecDepth 100000
set_option maxHeartbeats 4000000
namespace K13
open PySem L2 PM
local macro_rules | `(tactic| walk_at "pm") => `(tactic| simp (config := { decide := true }) only [bind_ok, toS_ok, seq_nx, seq_rt, seq_bk, seq_ct, seq_exc, bind_exc, toS_exc, mSeq_ap, mNext_ap, mSet_ap, kSet_ap, mAsg_ap, kAsg_ap, ofS_some, gN_ap, gTup_ap, gCons_ap, gNil_ap, mDrop_ap, kDrop_ap, mRet_ap, mRetN_ap, mIfS_ap, kIf_t, kIf_f, mBreak_ap, mCont_ap, mBad_ap, mAug_ap, kAug_ap, mVar_ap, mC_ap, m1_ap, k1_ap, m2_ap, k2_ap, k2'_ap, ofO_some, mNil_ap, mCons_ap, kC_ap, kC'_ap, mCall_ap, mB_ap, kB_ap, mMeth_ap, kM_ap, kM'_ap, mTest_ap, kBl_ap, mNot_ap, kNot_ap, mAnd_ap, kAnd_t, kAnd_f, mOr_ap, kOr_t, kOr_f, mIfE_ap, kIfE_t, kIfE_f, mAndV_ap, kAndV_t, kAndV_f, mOrV_ap, kOrV_t, kOrV_f, mNotV_ap, kNotV_ap, mTup_ap, kTup_ap, mLst_ap, kLst_ap, mNoPart_ap, mPart_ap, kInt_ap, mSl_ap, kSl1_ap, kSl2_ap, kSl3_ap, mChain_ap, kCh0_ap, kCh1_ap, kCh2_t, kCh2_f, kCh3_ap, mPutD_ap, kP1_ap, kP2_ap, kP3_ap, runDef_ap, fin_nx, fin_rt, fin_exc, mYes_ap, add_ii, iadd_ii, add_ss, sub_ii, mul_ii, mul_si, mod_ii, fdiv_ii, pow_ii, neg_i, ord_ii, ord_ss, eq_ii, ne_ii, eq_ss, ne_ss, is_non, isn_non, int_i, len_s, len_t, min_ii, sl_s, in_c, nin_c, split_s, str1_ss, find4_s, ty_str, ord_c, iR1_ap, itR1_i, iS_ap, itS_s, iT_ap, itT_t, iE_ap, oD_some, len_r, oLen_l, oLen_r, oKey_s, it_ref, itH_r, itH_t, itH_s, oIH_d, oIH_l, oIH_r, tupF_r, oTupF_l, mTupF_ap, kTupF_ap, seq_t, seq_s, seq_r, oSeq_l, mStar_ap, kSt_ap, kSt1_s, kSt2_ap, lst_d, oLst_s, mTupRev_ap, kRev_t, kRev_s, len_st, min_l, oTy_t, oTy_d, isi_i, isi_s, mIdx_ap, kIx_s, kIxs_ap, kIx1_s, iA_ap, itA_t, itA_s, oItem_d, oItem_l, oItem_r, it_tup, oC_some, it_str, keyD_s, keyD_i, app_r, oApp_l, ext_r, oExt_l, ty_ref, oTy_l, isi_ref, oIsi_l, put_ref, oPut_d, oPutK_s, oBls_s, all_r, oAll_l, tup_r, oTup_l, itE_r, oEnum_l, slT_t, addL_r, oCat_l, lenQ_r, oLenQ_d, isiT_t, isiT_i, isiT_s, isiT_n, mInK_ap, kInK_s, mAtK_ap, kAtK_s, kAtK1_s, mPar_ap, kPar_ap, mPutJ_ap, kJ1_ap, kJ2_ap, mRaise_ap, kRaise_1, get1_r, List.map_cons, List.map_nil, List.length_cons, List.length_nil, List.replicate, List.cons_append, List.nil_append, List.set_cons_zero, List.set_cons_succ, List.getElem?_cons_zero, List.getElem?_cons_succ, Nat.reduceSub, Nat.reduceAdd, Nat.reduceLeDiff, Nat.reduceLT,  cond_true, cond_false, if_true, if_false, ite_true, ite_false, Bool.false_eq_true, reduceIte, Nat.zero_add, Option.bind_some, ne_eq, Int.reduceEq, not_false_eq_true, not_true_eq_false, decide_true, decide_false, Bool.not_true, Bool.not_false, *])

def aN : Co → List Str
  | .ev1 b => nT b
  | .ev2 a b => nT a ++ nT b
  | .cmp _ l r => nT l ++ nT r
  | .tru => []
  | .not f => aN f
  | .two _ f g => aN f ++ aN g
  | .som x f => x :: aN f
  | .bef f => aN f
  | .unt f g => aN f ++ aN g
  | .grp _ _ _ f => aN f
theorem nT_len : ∀ {t : Tm} {d : Nat}, okT t d → (nT t).length ≤ 2 ^ d
  | .nm _, d, _ => by have := pow_d d; simp only [nT, List.length_cons, List.length_nil]; omega
  | .num _, d, _ => by have := pow_d d; simp only [nT, List.length_nil]; omega
  | .txt _, d, _ => by have := pow_d d; simp only [nT, List.length_nil]; omega
  | .bin b l r, _, ⟨e, rfl, hl, hr⟩ => by
    have := pow_d e
    have h1 := nT_len hl
    have h2 := nT_len hr
    simp only [nT, List.length_append]; omega
theorem aN_len : ∀ {c : Co} {d : Nat}, okC c d → (aN c).length + 8 ≤ 16 * 2 ^ d
  | .ev1 b, d, h => by have := pow_d d; have h1 := nT_len (d := 0) h; have : 2 ^ 0 = 1 := rfl; simp only [aN]; omega
  | .ev2 a b, d, h => by have := pow_d d; have h1 := nT_len (d := 0) h.1; have h2 := nT_len (d := 0) h.2; have : 2 ^ 0 = 1 := rfl; simp only [aN, List.length_append]; omega
  | .cmp sg l r, d, h => by have := pow_d d; have h1 := nT_len h.1; have h2 := nT_len h.2; have : 2 ^ 2 = 4 := rfl; simp only [aN, List.length_append]; omega
  | .tru, d, _ => by have := pow_d d; simp only [aN, List.length_nil]; omega
  | .not f, _, ⟨e, rfl, hf⟩ => by have := pow_d e; have := aN_len hf; simp only [aN]; omega
  | .two o f g, _, ⟨e, rfl, hf, hg⟩ => by have := pow_d e; have := aN_len hf; have := aN_len hg; simp only [aN, List.length_append]; omega
  | .som x f, _, ⟨e, rfl, hf⟩ => by have := pow_d e; have := aN_len hf; simp only [aN, List.length_cons]; omega
  | .bef f, _, ⟨e, rfl, hf⟩ => by have := pow_d e; have := aN_len hf; simp only [aN]; omega
  | .unt f g, _, ⟨e, rfl, hf, hg⟩ => by have := pow_d e; have := aN_len hf; have := aN_len hg; simp only [aN, List.length_append]; omega
  | .grp own fn val f, _, ⟨e, rfl, hf⟩ => by have := pow_d e; have := aN_len hf; simp only [aN]; omega
theorem aN_4 {c : Co} {d : Nat} (ok : okC c d) (hd : d ≤ 4) : (aN c).length ≤ 248 := by
  have h1 := aN_len ok
  have h3 : 2 ^ d ≤ 2 ^ 4 := Nat.pow_le_pow_right (by omega) hd
  have p : 2 ^ 4 = 16 := rfl
  omega
def nP : Pt → List Str
  | .sk _ => []
  | .sub f => aN f
def dS (xs : List Str) : List D := xs.map D.str
theorem la_skip {ra : List D → HP → R D} {d : D} {h : HP} {x0 x1 : Option D} (sk : skip d) : L_u_law_all_2 ra [x0, x1, some d] h = .nx [x0, x1, some d] h := by
  unfold L_u_law_all_2
  rcases sk with ⟨s, rfl⟩ | ⟨i, rfl⟩ | rfl | rfl
  · walk_at "pm"
  · walk_at "pm"
  · walk_at "pm"
  · have ne := ne_unit0
    walk_at "pm"
theorem la_sub {ra : List D → HP → R D} {f : Co} {d : Nat} {A r1 : Nat} {h h1 : HP} {L L1 : List D} {x0 : Option D} (ok : okC f d) (hd : d ≤ 4) (l : lC f) (hi : ra [eC f] h = .ok (.ref r1) h1) (eA : h1[A]? = some (.lst L)) (e1 : h1[r1]? = some (.lst L1)) (hl : L.length + L1.length ≤ 1000000) :
    L_u_law_all_2 ra [x0, some (.ref A), some (eC f)] h = .nx [x0, some (.ref h1.length), some (eC f)] (h1 ++ [.lst (L ++ L1)]) := by
  have ne := ne_unit ok (by omega) l
  obtain ⟨xs, ex⟩ := eC_tup f
  have is : ∀ h, isiT [eC f, .ty "tuple"] h = some (.bl true, h) := fun h => by rw [ex]; rfl
  unfold L_u_law_all_2
  clear ex ok l
  generalize eC f = z at *
  walk_at "pm"
theorem la_tm {ra : List D → HP → R D} {t : Tm} {A r1 : Nat} {h h1 : HP} {L L1 : List D} {x0 : Option D} (hi : m_u_law_term_names 20 [eT t] h = .ok (.ref r1) h1) (eA : h1[A]? = some (.lst L)) (e1 : h1[r1]? = some (.lst L1)) (hl : L.length + L1.length ≤ 1000000) :
    L_u_law_all_1 ra [x0, some (.ref A), some (eT t)] h = .nx [x0, some (.ref h1.length), some (eT t)] (h1 ++ [.lst (L ++ L1)]) := by
  unfold L_u_law_all_1
  generalize eT t = z at *
  walk_at "pm"
def LaOk (n : Nat) : Prop := ∀ c d, okC c d → d < n → d ≤ 4 → lC c → ∀ h : HP, ∃ r h', m_u_law_all n [eC c] h = .ok (.ref r) h' ∧ X0 h h' ∧ h'[r]? = some (.lst (dS (aN c)))
theorem la_loop {n : Nat} (ih : LaOk n) {x0 : Option D} : ∀ {ps : List Pt} {d : Nat} {h : HP} {L : List D} {A : Nat} {x5 : Option D}, (∀ p ∈ ps, okP d p) → d < n → d ≤ 4 → h[A]? = some (.lst L) → L.length + (ps.flatMap nP).length ≤ 100000 →
    ∃ h' A' y5, mLoop (fun _ => True) (gN 2) (L_u_law_all_2 (m_u_law_all n)) (ps.map dP) [x0, some (.ref A), x5] h = .nx [x0, some (.ref A'), y5] h' ∧ X0 h h' ∧ h'[A']? = some (.lst (L ++ dS (ps.flatMap nP)))
  | [], d, h, L, A, x5, _, _, _, e, _ => ⟨h, A, x5, mLoop_nil trivial, X0.refl _, by simpa [dS] using e⟩
  | .sk z :: ps, d, h, L, A, x5, ok, hn, hd, e, hl => by
    obtain ⟨h2, A2, y5, e2, x2', g2⟩ := la_loop ih (ps := ps) (x5 := some z) (fun p hp => ok p (List.mem_cons_of_mem _ hp)) hn hd e (by simpa [nP] using hl) (x0 := x0)
    exact ⟨h2, A2, y5, (mLoop_nx trivial rfl (.inl (la_skip (ok (.sk z) List.mem_cons_self)))).trans e2, x2', by simpa [nP] using g2⟩
  | .sub f :: ps, d, h, L, A, x5, ok, hn, hd, e, hl => by
    have okf := ok (.sub f) List.mem_cons_self
    rw [List.flatMap_cons, List.length_append] at hl
    have hl2 : L.length + ((aN f).length + (ps.flatMap nP).length) ≤ 100000 := hl
    obtain ⟨r1, h1, e1, x1', q1⟩ := ih f d okf.1 hn hd okf.2 h
    have st := la_sub (x0 := x0) okf.1 hd okf.2 e1 (x1'.at' _ _ e) q1 (by simp [dS]; omega)
    obtain ⟨h2, A2, y5, e2, x2', g2⟩ := la_loop ih (ps := ps) (x5 := some (eC f)) (h := h1 ++ [.lst (L ++ dS (aN f))]) (A := h1.length) (L := L ++ dS (aN f)) (fun p hp => ok p (List.mem_cons_of_mem _ hp)) hn hd last_get (by simp [dS]; simp at hl2; omega) (x0 := x0)
    refine ⟨h2, A2, y5, (mLoop_nx trivial rfl (.inl st)).trans e2, (x1'.trans (X0.app _ _)).trans x2', ?_⟩
    rw [g2, List.flatMap_cons]
    simp [dS, nP]
/-- a rule that is no event or compare; with its first name where it is a some -/
theorem la_rest {n d : Nat} (ih : LaOk n) {w : Str} {ds : List D} {ps : List Pt} {L0 : List Str} (hr : ds = ps.map dP) (h1 : (w = "event") = False) (h2 : (w = "compare") = False) (h3 : ((w = "some") = False ∧ L0 = []) ∨ ∃ x rest, w = "some" ∧ ds = .str x :: rest ∧ L0 = [x]) (ok : ∀ p ∈ ps, okP d p) (hn : ps ≠ [] → d < n) (hd : d ≤ 4) (hl : (ps.flatMap nP).length ≤ 10000) (h : HP) :
    ∃ r h', m_u_law_all (n + 1) [.tup (.str w :: ds)] h = .ok (.ref r) h' ∧ X0 h h' ∧ h'[r]? = some (.lst (dS (L0 ++ ps.flatMap nP))) := by
  have ei : ∀ hh, iA (mSl slT (mVar 0) (mPart (mC (.int 1))) mNoPart) [some (.tup (.str w :: ds)), some (.ref h.length), none] hh = .ok (ps.map dP, fun _ => True) hh := fun hh => by
    have : iA (mSl slT (mVar 0) (mPart (mC (.int 1))) mNoPart) [some (.tup (.str w :: ds)), some (.ref h.length), none] hh = .ok (cutD (.str w :: ds) (some 1) none, fun _ => True) hh := rfl
    rw [this]
    have cd : cutD (.str w :: ds) (some 1) none = ds := by
      have hs : HT.sIx (ds.length + 1) 0 (some 1) = 1 := by
        unfold HT.sIx
        simp
      have he : HT.sIx (ds.length + 1) (ds.length + 1) none = ds.length + 1 := rfl
      unfold cutD
      rw [List.length_cons, hs, he]
      simp
    rw [cd, hr]
  have lp : ∀ hh, hh[h.length]? = some (.lst (dS L0)) → (dS L0).length ≤ 1 → ∃ h' A' y5, mLoop (fun _ => True) (gN 2) (L_u_law_all_2 (m_u_law_all n)) (ps.map dP) [some (.tup (.str w :: ds)), some (.ref h.length), none] hh = .nx [some (.tup (.str w :: ds)), some (.ref A'), y5] h' ∧ X0 hh h' ∧ h'[A']? = some (.lst (dS (L0 ++ ps.flatMap nP))) := fun hh e l1 => by
    have dd : dS (L0 ++ ps.flatMap nP) = dS L0 ++ dS (ps.flatMap nP) := by simp [dS]
    rw [dd]
    by_cases hp : ps = []
    · subst hp
      exact ⟨_, _, none, mLoop_nil trivial, X0.refl _, by simpa [dS] using e⟩
    · exact la_loop ih ok (hn hp) hd e (by omega)
  have a0 := @at0 (.str w) ds
  rcases h3 with ⟨h3, rfl⟩ | ⟨x, rest, rfl, rfl, rfl⟩
  · obtain ⟨h', A', y5, e1, x1, g1⟩ := lp (h ++ [Ob.lst []]) last_get (by simp [dS])
    refine ⟨A', h', ?_, (X0.app _ _).trans x1, g1⟩
    have mf : mFor (iA (mSl slT (mVar 0) (mPart (mC (.int 1))) mNoPart)) (gN 2) (L_u_law_all_2 (m_u_law_all n)) [some (.tup (.str w :: ds)), some (.ref h.length), none] (h ++ [Ob.lst []]) = .nx [some (.tup (.str w :: ds)), some (.ref A'), y5] h' := (mFor_ok (ei _)).trans e1
    show runDef 3 (b_u_law_all (m_u_law_all n)) [.tup (.str w :: ds)] h = _
    unfold b_u_law_all
    clear e1 g1 x1 ei ih hr hl lp
    walk_at "pm"
  · have g0 : (h ++ [Ob.lst []])[h.length]? = some (.lst []) := last_get
    have sl : (h ++ [Ob.lst []]).set h.length (.lst ([] ++ [.str x])) = h ++ [.lst [.str x]] := set_last
    obtain ⟨h', A', y5, e1, x1, g1⟩ := lp (h ++ [Ob.lst [.str x]]) last_get (by simp [dS])
    refine ⟨A', h', ?_, (X0.app _ _).trans x1, g1⟩
    have mf : mFor (iA (mSl slT (mVar 0) (mPart (mC (.int 1))) mNoPart)) (gN 2) (L_u_law_all_2 (m_u_law_all n)) [some (.tup (.str "some" :: .str x :: rest)), some (.ref h.length), none] (h ++ [Ob.lst [.str x]]) = .nx [some (.tup (.str "some" :: .str x :: rest)), some (.ref A'), y5] h' := (mFor_ok (ei _)).trans e1
    have a1 := @at1 (.str "some") (.str x) rest
    have sl2 : (h ++ [Ob.lst []]).set h.length (.lst [.str x]) = h ++ [.lst [.str x]] := set_last
    show runDef 3 (b_u_law_all (m_u_law_all n)) [.tup (.str "some" :: .str x :: rest)] h = _
    unfold b_u_law_all
    clear e1 g1 x1 ei ih hr hl lp
    have lz : (List.length ([] : List D)) < 1000000 := by simp
    walk_at "pm"
/-- an event -/
theorem la_ev {n : Nat} {z : Str} : ∀ {ts : List Tm} {L : List Str} {h : HP} {A : Nat} {x0 x2 : Option D}, (∀ t ∈ ts, okT t 0) → h[A]? = some (.lst (dS L)) → L.length + ts.length ≤ 1000 →
    ∃ h' A' y2, mLoop (fun _ => True) (gN 2) (L_u_law_all_1 (m_u_law_all n)) (ts.map eT) [x0, some (.ref A), x2] h = .nx [x0, some (.ref A'), y2] h' ∧ X0 h h' ∧ h'[A']? = some (.lst (dS (L ++ ts.flatMap nT)))
  | [], L, h, A, x0, x2, _, e, _ => ⟨h, A, x2, mLoop_nil trivial, X0.refl _, by simpa using e⟩
  | t :: ts, L, h, A, x0, x2, ok, e, hl => by
    rw [List.length_cons] at hl
    have o0 := ok t List.mem_cons_self
    have n0 := nT_len o0
    have p0 : 2 ^ 0 = 1 := rfl
    obtain ⟨r1, h1, e1, x1, q1⟩ := ltn_ok 20 t 0 o0 (by omega) h (by omega)
    have st := la_tm (ra := m_u_law_all n) (x0 := x0) e1 (x1.at' _ _ e) q1 (by simp [dS]; omega)
    have dd : dS L ++ (nT t).map D.str = dS (L ++ nT t) := by simp [dS]
    rw [dd] at st
    obtain ⟨h2, A2, y2, e2, x2', g2⟩ := la_ev (n := n) (z := z) (ts := ts) (L := L ++ nT t) (h := h1 ++ [.lst (dS (L ++ nT t))]) (A := h1.length) (x0 := x0) (x2 := some (eT t)) (fun t ht => ok t (List.mem_cons_of_mem _ ht)) last_get (by simp; omega)
    refine ⟨h2, A2, y2, (mLoop_nx trivial rfl (.inl st)).trans e2, (x1.trans (X0.app _ _)).trans x2', ?_⟩
    rw [g2, List.flatMap_cons, List.append_assoc]
theorem la_event {n : Nat} {z : Str} {ts : List Tm} (ok : ∀ t ∈ ts, okT t 0) (hl : ts.length ≤ 10) (h : HP) : ∃ r h', m_u_law_all (n + 1) [.tup [.str "event", .str z, .tup (ts.map eT)]] h = .ok (.ref r) h' ∧ X0 h h' ∧ h'[r]? = some (.lst (dS (ts.flatMap nT))) := by
  obtain ⟨h', A', y2, e1, x1, g1⟩ := la_ev (n := n) (z := z) (ts := ts) (L := []) (h := h ++ [Ob.lst []]) (A := h.length) (x0 := some (.tup [.str "event", .str z, .tup (ts.map eT)])) (x2 := none) ok last_get (by simp; omega)
  rw [List.nil_append] at g1
  refine ⟨A', h', ?_, (X0.app _ _).trans x1, g1⟩
  have a0 := @at0 (.str "event") [.str z, .tup (ts.map eT)]
  have a2 := @at2 (.str "event") (.str z) (.tup (ts.map eT)) []
  have ei : iA (m2 itemH (mVar 0) (mC (.int 2))) [some (.tup [.str "event", .str z, .tup (ts.map eT)]), some (.ref h.length), none] (h ++ [Ob.lst []]) = .ok (ts.map eT, fun _ => True) (h ++ [Ob.lst []]) := by
    clear e1 g1 x1
    generalize ts.map eT = zs at *
    walk_at "pm"
  have mf : mFor (iA (m2 itemH (mVar 0) (mC (.int 2)))) (gN 2) (L_u_law_all_1 (m_u_law_all n)) [some (.tup [.str "event", .str z, .tup (ts.map eT)]), some (.ref h.length), none] (h ++ [Ob.lst []]) = .nx [some (.tup [.str "event", .str z, .tup (ts.map eT)]), some (.ref A'), y2] h' := (mFor_ok ei).trans e1
  show runDef 3 (b_u_law_all (m_u_law_all n)) [.tup [.str "event", .str z, .tup (ts.map eT)]] h = _
  unfold b_u_law_all
  clear e1 g1 x1 ei
  generalize ts.map eT = zs at *
  walk_at "pm"
theorem la_ok : ∀ n, LaOk n
  | 0 => fun _ _ _ hn => by omega
  | n + 1 => by
    have ih := la_ok n
    intro c d ok hn hd l h
    cases c with
    | ev1 b =>
      have := la_event (n := n) (z := "p") (ts := [b]) (fun t ht => by simp at ht; subst ht; exact ok) (by simp) h
      simpa [aN, eC] using this
    | ev2 a b =>
      have := la_event (n := n) (z := "q") (ts := [a, b]) (fun t ht => by simp at ht; rcases ht with rfl | rfl; exact ok.1; exact ok.2) (by simp) h
      simpa [aN, eC] using this
    | cmp sg lt r =>
      have n1 := nT_len ok.1
      have n2 := nT_len ok.2
      have p2 : 2 ^ 2 = 4 := rfl
      obtain ⟨r1, h1, e1, x1, q1⟩ := ltn_ok 20 lt 2 ok.1 (by omega) (h ++ [Ob.lst []]) (by omega)
      obtain ⟨r2, h2, e2, x2, q2⟩ := ltn_ok 20 r 2 ok.2 (by omega) h1 (by omega)
      have q1' := x2.at' _ _ q1
      have l1 : ((nT lt).map D.str).length + ((nT r).map D.str).length ≤ 1000000 := by simp; omega
      refine ⟨h2.length, h2 ++ [.lst ((nT lt).map D.str ++ (nT r).map D.str)], ?_, (((X0.app _ _).trans x1).trans x2).trans (X0.app _ _), by rw [last_get]; simp [dS, aN]⟩
      have a0 := @at0 (.str "compare") [.str sg, eT lt, eT r]
      have a2 := @at2 (.str "compare") (.str sg) (eT lt) [eT r]
      have a3 := @at3 (.str "compare") (.str sg) (eT lt) (eT r) []
      show runDef 3 (b_u_law_all (m_u_law_all n)) [.tup [.str "compare", .str sg, eT lt, eT r]] h = _
      unfold b_u_law_all
      clear ih x1 x2 q1 ok l n1 n2
      generalize eT lt = zl at *
      generalize eT r = zr at *
      generalize (nT lt).map D.str = nl at *
      generalize (nT r).map D.str = nr at *
      walk_at "pm"
    | tru => exact la_rest (d := 0) (w := "true") (ds := []) (ps := []) ih rfl (by simp; decide) (by simp; decide) (.inl ⟨by simp; decide, rfl⟩) (fun _ h => by cases h) (fun h => absurd rfl h) (by omega) (by simp) h
    | not f =>
      obtain ⟨k, rfl, hf⟩ := ok
      have hl := aN_4 hf (by omega)
      have := la_rest (d := k) (w := "not") (ds := [eC f]) (ps := [.sub f]) ih rfl (by simp; decide) (by simp; decide) (.inl ⟨by simp; decide, rfl⟩) (fun p hp => by simp at hp; subst hp; exact ⟨hf, l⟩) (fun _ => by omega) (by omega) (by simp [nP]; omega) h
      simpa [nP, eC, aN] using this
    | two o f g =>
      obtain ⟨k, rfl, hf, hg⟩ := ok
      have hl := aN_4 hf (by omega)
      have hl2 := aN_4 hg (by omega)
      have := la_rest (d := k) (w := tw o) (ds := [eC f, eC g]) (ps := [.sub f, .sub g]) ih rfl (by cases o <;> (simp [tw]; decide)) (by cases o <;> (simp [tw]; decide)) (.inl ⟨by cases o <;> (simp [tw]; decide), rfl⟩) (fun p hp => by simp at hp; rcases hp with rfl | rfl; exact ⟨hf, l.1⟩; exact ⟨hg, l.2⟩) (fun _ => by omega) (by omega) (by simp [nP]; omega) h
      simpa [nP, eC, aN] using this
    | som x f =>
      obtain ⟨k, rfl, hf⟩ := ok
      have hl := aN_4 hf (by omega)
      have := la_rest (d := k) (w := "some") (ds := [.str x, eC f]) (ps := [.sk (.str x), .sub f]) (L0 := [x]) ih rfl (by simp; decide) (by simp; decide) (.inr ⟨x, [eC f], rfl, rfl, rfl⟩) (fun p hp => by simp at hp; rcases hp with rfl | rfl; exact .inl ⟨_, rfl⟩; exact ⟨hf, l.2⟩) (fun _ => by omega) (by omega) (by simp [nP]; omega) h
      simpa [nP, eC, aN] using this
    | bef f =>
      obtain ⟨k, rfl, hf⟩ := ok
      have hl := aN_4 hf (by omega)
      have := la_rest (d := k) (w := "before") (ds := [.int 0, .int 5, eC f]) (ps := [.sk (.int 0), .sk (.int 5), .sub f]) ih rfl (by simp; decide) (by simp; decide) (.inl ⟨by simp; decide, rfl⟩) (fun p hp => by simp at hp; rcases hp with rfl | rfl | rfl; exact .inr (.inl ⟨_, rfl⟩); exact .inr (.inl ⟨_, rfl⟩); exact ⟨hf, l⟩) (fun _ => by omega) (by omega) (by simp [nP]; omega) h
      simpa [nP, eC, aN] using this
    | unt f g =>
      obtain ⟨k, rfl, hf, hg⟩ := ok
      have hl := aN_4 hf (by omega)
      have hl2 := aN_4 hg (by omega)
      have := la_rest (d := k) (w := "until") (ds := [.int 0, .int 5, eC f, eC g]) (ps := [.sk (.int 0), .sk (.int 5), .sub f, .sub g]) ih rfl (by simp; decide) (by simp; decide) (.inl ⟨by simp; decide, rfl⟩) (fun p hp => by simp at hp; rcases hp with rfl | rfl | rfl | rfl; exact .inr (.inl ⟨_, rfl⟩); exact .inr (.inl ⟨_, rfl⟩); exact ⟨hf, l.1⟩; exact ⟨hg, l.2⟩) (fun _ => by omega) (by omega) (by simp [nP]; omega) h
      simpa [nP, eC, aN] using this
    | grp own fn val f =>
      obtain ⟨k, rfl, hf⟩ := ok
      have hl := aN_4 hf (by omega)
      have := la_rest (d := k) (w := "group") (ds := [.str own, .str fn, eV val, .tup [], eC f]) (ps := [.sk (.str own), .sk (.str fn), .sk (eV val), .sk (.tup []), .sub f]) ih rfl (by simp; decide) (by simp; decide) (.inl ⟨by simp; decide, rfl⟩)
        (fun p hp => by simp at hp; rcases hp with rfl | rfl | rfl | rfl | rfl; exact .inl ⟨_, rfl⟩; exact .inl ⟨_, rfl⟩; exact (by cases val; exact .inr (.inr (.inl rfl)); exact .inl ⟨_, rfl⟩); exact .inr (.inr (.inr rfl)); exact ⟨hf, l.2.2.2⟩) (fun _ => by omega) (by omega) (by simp [nP]; omega) h
      simpa [nP, eC, aN] using this
end K13
end
section
set_option Elab.async false
set_option linter.all false
set_option maxRecDepth 100000
set_option maxHeartbeats 4000000
namespace K13
open PySem L2 PM
local macro_rules | `(tactic| walk_at "pm") => `(tactic| simp (config := { decide := true }) only [bind_ok, toS_ok, seq_nx, seq_rt, seq_bk, seq_ct, seq_exc, bind_exc, toS_exc, mSeq_ap, mNext_ap, mSet_ap, kSet_ap, mAsg_ap, kAsg_ap, ofS_some, gN_ap, gTup_ap, gCons_ap, gNil_ap, mDrop_ap, kDrop_ap, mRet_ap, mRetN_ap, mIfS_ap, kIf_t, kIf_f, mBreak_ap, mCont_ap, mBad_ap, mAug_ap, kAug_ap, mVar_ap, mC_ap, m1_ap, k1_ap, m2_ap, k2_ap, k2'_ap, ofO_some, mNil_ap, mCons_ap, kC_ap, kC'_ap, mCall_ap, mB_ap, kB_ap, mMeth_ap, kM_ap, kM'_ap, mTest_ap, kBl_ap, mNot_ap, kNot_ap, mAnd_ap, kAnd_t, kAnd_f, mOr_ap, kOr_t, kOr_f, mIfE_ap, kIfE_t, kIfE_f, mAndV_ap, kAndV_t, kAndV_f, mOrV_ap, kOrV_t, kOrV_f, mNotV_ap, kNotV_ap, mTup_ap, kTup_ap, mLst_ap, kLst_ap, mNoPart_ap, mPart_ap, kInt_ap, mSl_ap, kSl1_ap, kSl2_ap, kSl3_ap, mChain_ap, kCh0_ap, kCh1_ap, kCh2_t, kCh2_f, kCh3_ap, mPutD_ap, kP1_ap, kP2_ap, kP3_ap, runDef_ap, fin_nx, fin_rt, fin_exc, mYes_ap, add_ii, iadd_ii, add_ss, sub_ii, mul_ii, mul_si, mod_ii, fdiv_ii, pow_ii, neg_i, ord_ii, ord_ss, eq_ii, ne_ii, eq_ss, ne_ss, is_non, isn_non, int_i, len_s, len_t, min_ii, sl_s, in_c, nin_c, split_s, str1_ss, find4_s, ty_str, ord_c, iR1_ap, itR1_i, iS_ap, itS_s, iT_ap, itT_t, iE_ap, oD_some, len_r, oLen_l, oLen_r, oKey_s, it_ref, itH_r, itH_t, itH_s, oIH_d, oIH_l, oIH_r, tupF_r, oTupF_l, mTupF_ap, kTupF_ap, seq_t, seq_s, seq_r, oSeq_l, mStar_ap, kSt_ap, kSt1_s, kSt2_ap, lst_d, oLst_s, mTupRev_ap, kRev_t, kRev_s, len_st, min_l, oTy_t, oTy_d, isi_i, isi_s, mIdx_ap, kIx_s, kIxs_ap, kIx1_s, iA_ap, itA_t, itA_s, oItem_d, oItem_l, oItem_r, it_tup, oC_some, it_str, keyD_s, keyD_i, app_r, oApp_l, ext_r, oExt_l, ty_ref, oTy_l, isi_ref, oIsi_l, put_ref, oPut_d, oPutK_s, oBls_s, all_r, oAll_l, tup_r, oTup_l, itE_r, oEnum_l, slT_t, addL_r, oCat_l, lenQ_r, oLenQ_d, isiT_t, isiT_i, isiT_s, isiT_n, mInK_ap, kInK_s, mAtK_ap, kAtK_s, kAtK1_s, mPar_ap, kPar_ap, mPutJ_ap, kJ1_ap, kJ2_ap, mRaise_ap, kRaise_1, get1_r, List.map_cons, List.map_nil, List.length_cons, List.length_nil, List.replicate, List.cons_append, List.nil_append, List.set_cons_zero, List.set_cons_succ, List.getElem?_cons_zero, List.getElem?_cons_succ, Nat.reduceSub, Nat.reduceAdd, Nat.reduceLeDiff, Nat.reduceLT,  cond_true, cond_false, if_true, if_false, ite_true, ite_false, Bool.false_eq_true, reduceIte, Nat.zero_add, Option.bind_some, ne_eq, Int.reduceEq, not_false_eq_true, not_true_eq_false, decide_true, decide_false, Bool.not_true, Bool.not_false, *])

theorem rnd_nb : ∀ (ss : List Stp) (kn : Kn), rnd (ss.filter nb) kn = rnd ss kn
  | [], kn => rfl
  | .need k t w :: ss, kn => rnd_nb ss _
  | .alike l r :: ss, kn => rnd_nb ss _
  | .bound x :: ss, kn => rnd_nb ss kn
theorem it_nb (ss : List Stp) : ∀ n, it (ss.filter nb) n = it ss n
  | 0 => rfl
  | n + 1 => by show rnd _ _ = rnd _ _; rw [it_nb ss n, rnd_nb]
theorem wrong_nb (kn : Kn) : ∀ (ss : List Stp), (ss.filter nb).findSome? (wrong kn) = ss.findSome? (wrong kn)
  | [] => rfl
  | .need k t w :: ss => by
    rw [show (Stp.need k t w :: ss).filter nb = .need k t w :: ss.filter nb from rfl, List.findSome?_cons, List.findSome?_cons, wrong_nb kn ss]
  | .alike l r :: ss => by
    rw [show (Stp.alike l r :: ss).filter nb = .alike l r :: ss.filter nb from rfl, List.findSome?_cons, List.findSome?_cons, wrong_nb kn ss]
  | .bound x :: ss => by
    rw [show (Stp.bound x :: ss).filter nb = ss.filter nb from rfl, List.findSome?_cons, wrong_nb kn ss]; rfl
/-- not known -/
def nk (kn : Kn) (x : Str) : Bool := (kn.lookup x).isNone
theorem known_need {F : Kn} {k : Str} {t : Tm} {w : Str} (h : learn F (.need k t w) = F) : kd F t ≠ none := by
  cases t with
  | nm x =>
    intro q
    have q : F.lookup x = none := q
    have h : give F (.nm x) (some k) = F := h
    unfold give at h
    dsimp only at h
    rw [q] at h
    have := congrArg List.length h
    simp at this
  | _ => intro q; cases q
theorem tm_find {F : Kn} : ∀ {t : Tm}, (∀ s ∈ sT t, learn F s = F) → (nT t).find? (nk F) = u1 F t
  | .nm x, _ => by
    show [x].find? (nk F) = if (F.lookup x).isNone then some x else none
    have e : nk F x = (F.lookup x).isNone := rfl
    rw [List.find?_cons, e]
    cases (F.lookup x).isNone <;> rfl
  | .num _, _ => rfl
  | .txt _, _ => rfl
  | .bin b l r, h => by
    have hl := tm_find (F := F) (t := l) fun s hs => h s (by simp only [sT, List.mem_append, List.mem_cons]; exact .inl hs)
    have hr := tm_find (F := F) (t := r) fun s hs => h s (by simp only [sT, List.mem_append, List.mem_cons]; exact .inr (.inr (.inl hs)))
    have nl := known_need (h (.need "number" l (bs b)) (by simp [sT]))
    have nr := known_need (h (.need "number" r (bs b)) (by simp [sT]))
    show (nT l ++ nT r).find? (nk F) = none
    rw [List.find?_append, hl, hr, u1_none nl, u1_none nr]
    rfl
theorem unk_T {F : Kn} : ∀ {t : Tm}, (sT t).findSome? (unk F) = none
  | .nm _ => rfl
  | .num _ => rfl
  | .txt _ => rfl
  | .bin b l r => by
    have hl := unk_T (F := F) (t := l)
    have hr := unk_T (F := F) (t := r)
    show (sT l ++ Stp.need "number" l (bs b) :: (sT r ++ [Stp.need "number" r (bs b)])).findSome? (unk F) = none
    rw [List.findSome?_append, hl, List.findSome?_cons]
    show (none : Option Str).or ((sT r ++ [Stp.need "number" r (bs b)]).findSome? (unk F)) = none
    rw [List.findSome?_append, hr]
    rfl
theorem find_need {F : Kn} {k : Str} {t : Tm} {w : Str} (ht : ∀ s ∈ sT t, learn F s = F) (h : learn F (.need k t w) = F) : (nT t).find? (nk F) = none := by
  rw [tm_find ht, u1_none (known_need h)]
theorem tm0 {t : Tm} (h : okT t 0) : sT t = [] := by
  cases t with
  | bin b l r => obtain ⟨e, he, _⟩ := h; omega
  | _ => rfl
theorem unk_C {F : Kn} : ∀ {c : Co} {d : Nat}, okC c d → (∀ s ∈ sC c, learn F s = F) → (sC c).findSome? (unk F) = (aN c).find? (nk F)
  | .ev1 b, d, ok, h => by
    have e0 := tm0 ok
    have := find_need (F := F) (t := b) (by rw [e0]; intro s hs; cases hs) (h (.need "number" b "p") (by simp [sC]))
    show [Stp.need "number" b "p"].findSome? (unk F) = (nT b).find? (nk F)
    rw [this]; rfl
  | .ev2 a b, d, ok, h => by
    have ea := tm0 ok.1
    have eb := tm0 ok.2
    have h1 := find_need (F := F) (t := a) (by rw [ea]; intro s hs; cases hs) (h (.need "word" a "q") (by simp [sC]))
    have h2 := find_need (F := F) (t := b) (by rw [eb]; intro s hs; cases hs) (h (.need "number" b "q") (by simp [sC]))
    show [Stp.need "word" a "q", Stp.need "number" b "q"].findSome? (unk F) = (nT a ++ nT b).find? (nk F)
    rw [List.find?_append, h1, h2]; rfl
  | .cmp sg l r, d, ok, h => by
    show _ = (nT l ++ nT r).find? (nk F)
    by_cases e : sg = "="
    · have es : sC (.cmp sg l r) = sT l ++ (sT r ++ [.alike l r]) := if_pos e
      rw [es] at h ⊢
      rw [List.find?_append, tm_find (F := F) (t := l) fun s hs => h s (by simp [hs]), tm_find (F := F) (t := r) fun s hs => h s (by simp [hs]), List.findSome?_append, List.findSome?_append, unk_T, unk_T]
      have e : unk F (.alike l r) = (u1 F l).or (u1 F r) := rfl
      rw [List.findSome?_cons, e]
      cases u1 F l <;> cases u1 F r <;> rfl
    · have es : sC (.cmp sg l r) = sT l ++ .need "number" l sg :: (sT r ++ [.need "number" r sg]) := if_neg e
      rw [es] at h ⊢
      rw [List.find?_append, find_need (F := F) (t := l) (k := "number") (w := sg) (fun s hs => h s (by simp [hs])) (h _ (by simp)), find_need (F := F) (t := r) (k := "number") (w := sg) (fun s hs => h s (by simp [hs])) (h _ (by simp)), List.findSome?_append, unk_T, List.findSome?_cons]
      show (none : Option Str).or ((sT r ++ [Stp.need "number" r sg]).findSome? (unk F)) = none
      rw [List.findSome?_append, unk_T]
      rfl
  | .tru, d, _, _ => rfl
  | .not f, _, ⟨e, rfl, hf⟩, h => unk_C (c := f) hf h
  | .bef f, _, ⟨e, rfl, hf⟩, h => unk_C (c := f) hf h
  | .two o f g, _, ⟨e, rfl, hf, hg⟩, h => by
    have h1 := unk_C (F := F) hf fun s hs => h s (List.mem_append.mpr (.inl hs))
    have h2 := unk_C (F := F) hg fun s hs => h s (List.mem_append.mpr (.inr hs))
    show (sC f ++ sC g).findSome? (unk F) = (aN f ++ aN g).find? (nk F)
    rw [List.findSome?_append, List.find?_append, h1, h2]
  | .unt f g, _, ⟨e, rfl, hf, hg⟩, h => by
    have h1 := unk_C (F := F) hf fun s hs => h s (List.mem_append.mpr (.inl hs))
    have h2 := unk_C (F := F) hg fun s hs => h s (List.mem_append.mpr (.inr hs))
    show (sC f ++ sC g).findSome? (unk F) = (aN f ++ aN g).find? (nk F)
    rw [List.findSome?_append, List.find?_append, h1, h2]
  | .som x f, _, ⟨e, rfl, hf⟩, h => by
    have h1 := unk_C (F := F) hf fun s hs => h s (List.mem_cons_of_mem _ hs)
    show (Stp.bound x :: sC f).findSome? (unk F) = (x :: aN f).find? (nk F)
    rw [List.findSome?_cons, List.find?_cons, ← h1]
    have e1 : unk F (.bound x) = if (F.lookup x).isNone then some x else none := rfl
    have e2 : nk F x = (F.lookup x).isNone := rfl
    rw [e1, e2]
    cases (F.lookup x).isNone <;> rfl
  | .grp own fn val f, _, ⟨e, rfl, hf⟩, h => by
    have h1 := unk_C (F := F) hf fun s hs => h s (List.mem_append.mpr (.inl hs))
    show (sC f ++ .need "number" (.nm own) fn :: sV fn val).findSome? (unk F) = (aN f).find? (nk F)
    rw [List.findSome?_append, h1]
    have : (Stp.need "number" (.nm own) fn :: sV fn val).findSome? (unk F) = none := by cases val <;> rfl
    rw [this, Option.or_none]
/-- a name not known is one of those read -/
theorem u1_mem {F : Kn} {t : Tm} {x : Str} (nt : nT1 t) (h : u1 F t = some x) : x ∈ NM := by
  cases t with
  | nm y =>
    rw [u1_nm] at h
    split at h
    · cases h; exact nt
    · cases h
  | _ => cases h
theorem unk_mem {F : Kn} : ∀ {ss : List Stp} {x : Str}, (∀ s ∈ ss, nS s) → ss.findSome? (unk F) = some x → x ∈ NM
  | [], x, _, h => by cases h
  | s :: ss, x, ns, h => by
    rw [List.findSome?_cons] at h
    cases q : unk F s with
    | none => rw [q] at h; exact unk_mem (fun s hs => ns s (List.mem_cons_of_mem _ hs)) h
    | some y =>
      rw [q] at h
      cases h
      have n0 := ns s List.mem_cons_self
      cases s with
      | need _ _ _ => cases q
      | alike l r =>
        have q : (u1 F l).or (u1 F r) = some x := q
        cases ul : u1 F l with
        | some z => rw [ul] at q; cases q; exact u1_mem n0.1 ul
        | none => rw [ul] at q; exact u1_mem n0.2 q
      | bound z => exact u1_mem (t := .nm z) n0 q
end K13
end
section
set_option Elab.async false
set_option linter.all false
set_option maxRecDepth 100000
set_option maxHeartbeats 4000000
namespace K13
open PySem L2 PM
local macro_rules | `(tactic| walk_at "pm") => `(tactic| simp (config := { decide := true }) only [bind_ok, toS_ok, seq_nx, seq_rt, seq_bk, seq_ct, seq_exc, bind_exc, toS_exc, mSeq_ap, mNext_ap, mSet_ap, kSet_ap, mAsg_ap, kAsg_ap, ofS_some, gN_ap, gTup_ap, gCons_ap, gNil_ap, mDrop_ap, kDrop_ap, mRet_ap, mRetN_ap, mIfS_ap, kIf_t, kIf_f, mBreak_ap, mCont_ap, mBad_ap, mAug_ap, kAug_ap, mVar_ap, mC_ap, m1_ap, k1_ap, m2_ap, k2_ap, k2'_ap, ofO_some, mNil_ap, mCons_ap, kC_ap, kC'_ap, mCall_ap, mB_ap, kB_ap, mMeth_ap, kM_ap, kM'_ap, mTest_ap, kBl_ap, mNot_ap, kNot_ap, mAnd_ap, kAnd_t, kAnd_f, mOr_ap, kOr_t, kOr_f, mIfE_ap, kIfE_t, kIfE_f, mAndV_ap, kAndV_t, kAndV_f, mOrV_ap, kOrV_t, kOrV_f, mNotV_ap, kNotV_ap, mTup_ap, kTup_ap, mLst_ap, kLst_ap, mNoPart_ap, mPart_ap, kInt_ap, mSl_ap, kSl1_ap, kSl2_ap, kSl3_ap, mChain_ap, kCh0_ap, kCh1_ap, kCh2_t, kCh2_f, kCh3_ap, mPutD_ap, kP1_ap, kP2_ap, kP3_ap, runDef_ap, fin_nx, fin_rt, fin_exc, mYes_ap, add_ii, iadd_ii, add_ss, sub_ii, mul_ii, mul_si, mod_ii, fdiv_ii, pow_ii, neg_i, ord_ii, ord_ss, eq_ii, ne_ii, eq_ss, ne_ss, is_non, isn_non, int_i, len_s, len_t, min_ii, sl_s, in_c, nin_c, split_s, str1_ss, find4_s, ty_str, ord_c, iR1_ap, itR1_i, iS_ap, itS_s, iT_ap, itT_t, iE_ap, oD_some, len_r, oLen_l, oLen_r, oKey_s, it_ref, itH_r, itH_t, itH_s, oIH_d, oIH_l, oIH_r, tupF_r, oTupF_l, mTupF_ap, kTupF_ap, seq_t, seq_s, seq_r, oSeq_l, mStar_ap, kSt_ap, kSt1_s, kSt2_ap, lst_d, oLst_s, mTupRev_ap, kRev_t, kRev_s, len_st, min_l, oTy_t, oTy_d, isi_i, isi_s, mIdx_ap, kIx_s, kIxs_ap, kIx1_s, iA_ap, itA_t, itA_s, oItem_d, oItem_l, oItem_r, it_tup, oC_some, it_str, keyD_s, keyD_i, app_r, oApp_l, ext_r, oExt_l, ty_ref, oTy_l, isi_ref, oIsi_l, put_ref, oPut_d, oPutK_s, oBls_s, all_r, oAll_l, tup_r, oTup_l, itE_r, oEnum_l, slT_t, addL_r, oCat_l, lenQ_r, oLenQ_d, isiT_t, isiT_i, isiT_s, isiT_n, mInK_ap, kInK_s, mAtK_ap, kAtK_s, kAtK1_s, mPar_ap, kPar_ap, mPutJ_ap, kJ1_ap, kJ2_ap, mRaise_ap, kRaise_1, get1_r, List.map_cons, List.map_nil, List.length_cons, List.length_nil, List.replicate, List.cons_append, List.nil_append, List.set_cons_zero, List.set_cons_succ, List.getElem?_cons_zero, List.getElem?_cons_succ, Nat.reduceSub, Nat.reduceAdd, Nat.reduceLeDiff, Nat.reduceLT,  cond_true, cond_false, if_true, if_false, ite_true, ite_false, Bool.false_eq_true, reduceIte, Nat.zero_add, Option.bind_some, ne_eq, Int.reduceEq, not_false_eq_true, not_true_eq_false, decide_true, decide_false, Bool.not_true, Bool.not_false, *])

noncomputable def g4 : MG := PM.gTup 4 (PM.gCons (gN 4) (PM.gCons (gN 5) (PM.gCons (gN 6) (PM.gCons (gN 7) (PM.gNil)))))
theorem due2_ok {s : Stp} (nbs : nb s = true) {h : HP} {Kd : Nat} {kn : Kn} (e : h[Kd]? = some (.dic (eK kn))) (hl : kn.length ≤ 1000) {x0 x1 x3 x4 x5 x6 x7 x8 x9 : Option D} :
    ∃ y4 y5 y6 y7 h', g4 (eL s) [x0, x1, some (.ref Kd), x3, x4, x5, x6, x7, x8, x9] = some [x0, x1, some (.ref Kd), x3, y4, y5, y6, y7, x8, x9] ∧ L_u_law_due_2 [x0, x1, some (.ref Kd), x3, y4, y5, y6, y7, x8, x9] h = .nx [x0, x1, some (.ref Kd), x3, y4, y5, y6, y7, x8, x9] h' ∧ Fr Kd h h' ∧ h'[Kd]? = some (.dic (eK (learn kn s))) := by
  cases s with
  | bound x => cases nbs
  | need k t w =>
    have g := llearn_ok (t := t) (o := some k) e (by omega)
    refine ⟨some (.str "is"), some (eT t), some (.str k), some (.str w), _, rfl, ?_, Fr.set _ _ _, List.getElem?_set_self (get_lt e)⟩
    show _ = RS.nx _ (h.set Kd (.dic (eK (give kn t (some k)))))
    have g : m_u_law_learn [.ref Kd, eT t, .str k] h = .ok .non (h.set Kd (.dic (eK (give kn t (some k))))) := g
    unfold L_u_law_due_2
    generalize give kn t (some k) = gk at *
    generalize eT t = zt at *
    walk_at "pm"
  | alike l r =>
    obtain ⟨h1, k1, x1'⟩ := lkind_ok (t := r) e
    have e1 := x1'.at' _ _ e
    have g1 := llearn_ok (t := l) (o := kd kn r) e1 (by omega)
    have e2 : (h1.set Kd (.dic (eK (give kn l (kd kn r)))))[Kd]? = some (.dic (eK (give kn l (kd kn r)))) := List.getElem?_set_self (get_lt e1)
    obtain ⟨h2, k2, x2'⟩ := lkind_ok (t := l) e2
    have e3 := x2'.at' _ _ e2
    have gl := give_len kn l (kd kn r)
    have g2 := llearn_ok (t := r) (o := kd (give kn l (kd kn r)) l) e3 (by omega)
    refine ⟨some (.str "same"), some (eT l), some (eT r), some (.str "="), _, rfl, ?_, ((x1'.fr.trans (Fr.set _ _ _)).trans x2'.fr).trans (Fr.set _ _ _), List.getElem?_set_self (get_lt e3)⟩
    show _ = RS.nx _ (h2.set Kd (.dic (eK (give (give kn l (kd kn r)) r (kd (give kn l (kd kn r)) l)))))
    unfold L_u_law_due_2
    clear e e1 e2 e3 gl x1' x2'
    generalize give (give kn l (kd kn r)) r (kd (give kn l (kd kn r)) l) = gg at *
    generalize kd (give kn l (kd kn r)) l = kk at *
    generalize give kn l (kd kn r) = g at *
    generalize kd kn r = k at *
    generalize eT l = zl at *
    generalize eT r = zr at *
    walk_at "pm"
theorem lrnd_loop {S Kd : Nat} {L : List D} (hne : S ≠ Kd) {x0 x1 x3 x8 x9 : Option D} : ∀ {ss : List Stp} {kn : Kn} {h : HP} {x4 x5 x6 x7 : Option D}, h[S]? = some (.lst L) → h[Kd]? = some (.dic (eK kn)) → KnOk kn → (∀ s ∈ ss, nS s ∧ nb s = true) →
    ∃ h' y4 y5 y6 y7, mLoop (fun h => h[S]? = some (.lst L)) g4 L_u_law_due_2 (ss.map eL) [x0, x1, some (.ref Kd), x3, x4, x5, x6, x7, x8, x9] h = .nx [x0, x1, some (.ref Kd), x3, y4, y5, y6, y7, x8, x9] h' ∧ Fr Kd h h' ∧ h'[Kd]? = some (.dic (eK (rnd ss kn)))
  | [], kn, h, x4, x5, x6, x7, eS, e, _, _ => ⟨h, x4, x5, x6, x7, mLoop_nil eS, Fr.refl _ _, e⟩
  | s :: ss, kn, h, x4, x5, x6, x7, eS, e, ok, ns => by
    obtain ⟨n0, n1⟩ := ns s List.mem_cons_self
    obtain ⟨y4, y5, y6, y7, h1, e1, e2, f1, g1⟩ := due2_ok n1 e (by have := ok.len; omega) (x0 := x0) (x1 := x1) (x3 := x3) (x4 := x4) (x5 := x5) (x6 := x6) (x7 := x7) (x8 := x8) (x9 := x9)
    obtain ⟨h2, z4, z5, z6, z7, e3, f2, g2⟩ := lrnd_loop hne (ss := ss) (kn := learn kn s) (x4 := y4) (x5 := y5) (x6 := y6) (x7 := y7) (f1.at' _ _ hne eS) g1 (learn_kn ok n0) (fun s hs => ns s (List.mem_cons_of_mem _ hs)) (x0 := x0) (x1 := x1) (x3 := x3) (x8 := x8) (x9 := x9)
    exact ⟨h2, z4, z5, z6, z7, (mLoop_nx eS e1 (.inl e2)).trans e3, f1.trans f2, g2⟩
/-- behind m rounds -/
structure DI (ss : List Stp) (S Kd : Nat) (c : D) (h0 : HP) (m : Nat) (s : SD) (h : HP) : Prop where
  ex : ∃ x3 x4 x5 x6 x7, s = [some c, some (.ref S), some (.ref Kd), x3, x4, x5, x6, x7, none, none] ∧ h[S]? = some (.lst (ss.map eL)) ∧ h[Kd]? = some (.dic (eK (it ss m))) ∧ Fr Kd h0 h
theorem due1_ok {ss : List Stp} {S Kd : Nat} {c : D} {h0 : HP} (hne : S ≠ Kd) (ns : ∀ s ∈ ss, nS s ∧ nb s = true) {m : Nat} {d : D} {s : SD} {h : HP} (i : DI ss S Kd c h0 m s h) : ∃ s1 s2 h2, gN 3 d s = some s1 ∧ L_u_law_due_1 s1 h = .nx s2 h2 ∧ DI ss S Kd c h0 (m + 1) s2 h2 := by
  obtain ⟨x3, x4, x5, x6, x7, rfl, eS, e, f⟩ := i
  obtain ⟨h', y4, y5, y6, y7, e1, f1, g1⟩ := lrnd_loop hne eS e (it_kn (fun s hs => (ns s hs).1) m) ns (x0 := some c) (x1 := some (.ref S)) (x3 := some d) (x4 := x4) (x5 := x5) (x6 := x6) (x7 := x7) (x8 := none) (x9 := none)
  refine ⟨[some c, some (.ref S), some (.ref Kd), some d, x4, x5, x6, x7, none, none], _, h', rfl, ?_, ⟨some d, y4, y5, y6, y7, rfl, f1.at' _ _ hne eS, g1, f.trans f1⟩⟩
  show mFor (iA (mVar 1)) g4 L_u_law_due_2 [some c, some (.ref S), some (.ref Kd), some d, x4, x5, x6, x7, none, none] h = _
  refine (mFor_ok ?_).trans e1
  exact itA_l eS
/-! what is wrong -/
theorem due3_ok {s : Stp} (nbs : nb s = true) {h : HP} {Kd : Nat} {kn : Kn} (e : h[Kd]? = some (.dic (eK kn))) (sh : shS s) {x0 x1 x3 x4 x5 x6 x7 x8 x9 : Option D} :
    ∃ y4 y5 y6 y7 y8 y9 h', g4 (eL s) [x0, x1, some (.ref Kd), x3, x4, x5, x6, x7, x8, x9] = some [x0, x1, some (.ref Kd), x3, y4, y5, y6, y7, x8, x9] ∧ X0 h h' ∧ (wrong kn s = none → L_u_law_due_3 [x0, x1, some (.ref Kd), x3, y4, y5, y6, y7, x8, x9] h = .nx [x0, x1, some (.ref Kd), x3, y4, y5, y6, y7, y8, y9] h') ∧
      ∀ w, wrong kn s = some w → L_u_law_due_3 [x0, x1, some (.ref Kd), x3, y4, y5, y6, y7, x8, x9] h = .rt (.tup [.str "wrong", .str w]) h' := by
  cases s with
  | bound x => cases nbs
  | need k t w =>
    obtain ⟨h1, k1, x1'⟩ := lkind_ok (t := t) e
    have nn := nn_o (kd kn t)
    have nk : PM.isNon (.str k) = false := rfl
    refine ⟨some (.str "is"), some (eT t), some (.str k), some (.str w), some (eV (kd kn t)), some (.str k), h1, rfl, x1', ?_, ?_⟩
    · intro hw
      have hw : wrN (kd kn t) k w = none := hw
      unfold L_u_law_due_3
      generalize kd kn t = o at *
      generalize eT t = zt at *
      cases o with
      | none =>
        have z : (Option.isNone (none : Option Str)) = true := rfl
        walk_at "pm"
      | some k' =>
        have z : (Option.isNone (some k')) = false := rfl
        have va : eV (some k') = .str k' := rfl
        have c : k' = k := by
          unfold wrN at hw
          dsimp only at hw
          split at hw
          · assumption
          · cases hw
        rw [va] at k1 nn
        have c' := eq_true c
        clear c hw e
        rw [va]
        clear va
        walk_at "pm"
    · intro w2 hw
      have hw : wrN (kd kn t) k w = some w2 := hw
      unfold L_u_law_due_3
      generalize kd kn t = o at *
      generalize eT t = zt at *
      cases o with
      | none => cases hw
      | some k' =>
        have z : (Option.isNone (some k')) = false := rfl
        have va : eV (some k') = .str k' := rfl
        have c : ¬ k' = k ∧ w = w2 := by
          unfold wrN at hw
          dsimp only at hw
          split at hw
          · cases hw
          · exact ⟨by assumption, Option.some.inj hw⟩
        rw [va] at k1 nn
        obtain ⟨c, rfl⟩ := c
        have c' := eq_false c
        clear c hw e va
        walk_at "pm"
  | alike l r =>
    obtain ⟨h1, k1, x1'⟩ := lkind_ok (t := l) e
    have e1 := x1'.at' _ _ e
    obtain ⟨h2, k2, x2'⟩ := lkind_ok (t := r) e1
    have n1 := nn_o (kd kn l)
    have n2 := nn_o (kd kn r)
    refine ⟨some (.str "same"), some (eT l), some (eT r), some (.str "="), some (eV (kd kn l)), some (eV (kd kn r)), h2, rfl, x1'.trans x2', ?_, ?_⟩
    · intro hw
      have hw : wrA (kd kn l) (kd kn r) = none := hw
      unfold L_u_law_due_3
      generalize kd kn l = o1 at *
      generalize kd kn r = o2 at *
      generalize eT l = zl at *
      generalize eT r = zr at *
      clear x1' x2' e e1
      cases o1 with
      | none =>
        have z : (Option.isNone (none : Option Str)) = true := rfl
        walk_at "pm"
      | some a =>
        have z : (Option.isNone (some a)) = false := rfl
        have va : eV (some a) = .str a := rfl
        cases o2 with
        | none =>
          have z2 : (Option.isNone (none : Option Str)) = true := rfl
          rw [va] at k1 n1
          rw [va]
          clear va
          walk_at "pm"
        | some b =>
          have z2 : (Option.isNone (some b)) = false := rfl
          have vb : eV (some b) = .str b := rfl
          have c : a = b := by
            unfold wrA at hw
            dsimp only at hw
            split at hw
            · assumption
            · cases hw
          rw [va] at k1 n1
          rw [vb] at k2 n2
          rw [va, vb]
          have c' := eq_true c
          clear c hw va vb
          walk_at "pm"
    · intro w2 hw
      have hw : wrA (kd kn l) (kd kn r) = some w2 := hw
      unfold L_u_law_due_3
      generalize kd kn l = o1 at *
      generalize kd kn r = o2 at *
      generalize eT l = zl at *
      generalize eT r = zr at *
      clear x1' x2' e e1
      cases o1 with
      | none => cases hw
      | some a =>
        cases o2 with
        | none => cases hw
        | some b =>
          have z : (Option.isNone (some a)) = false := rfl
          have va : eV (some a) = .str a := rfl
          have z2 : (Option.isNone (some b)) = false := rfl
          have vb : eV (some b) = .str b := rfl
          have c : ¬ a = b ∧ "=" = w2 := by
            unfold wrA at hw
            dsimp only at hw
            split at hw
            · cases hw
            · exact ⟨by assumption, Option.some.inj hw⟩
          rw [va] at k1 n1
          rw [vb] at k2 n2
          obtain ⟨c, rfl⟩ := c
          have c' := eq_false c
          clear c hw va vb
          walk_at "pm"
end K13
end
section
set_option Elab.async false
set_option linter.all false
set_option maxRecDepth 100000
set_option maxHeartbeats 4000000
namespace K13
open PySem L2 PM
local macro_rules | `(tactic| walk_at "pm") => `(tactic| simp (config := { decide := true }) only [bind_ok, toS_ok, seq_nx, seq_rt, seq_bk, seq_ct, seq_exc, bind_exc, toS_exc, mSeq_ap, mNext_ap, mSet_ap, kSet_ap, mAsg_ap, kAsg_ap, ofS_some, gN_ap, gTup_ap, gCons_ap, gNil_ap, mDrop_ap, kDrop_ap, mRet_ap, mRetN_ap, mIfS_ap, kIf_t, kIf_f, mBreak_ap, mCont_ap, mBad_ap, mAug_ap, kAug_ap, mVar_ap, mC_ap, m1_ap, k1_ap, m2_ap, k2_ap, k2'_ap, ofO_some, mNil_ap, mCons_ap, kC_ap, kC'_ap, mCall_ap, mB_ap, kB_ap, mMeth_ap, kM_ap, kM'_ap, mTest_ap, kBl_ap, mNot_ap, kNot_ap, mAnd_ap, kAnd_t, kAnd_f, mOr_ap, kOr_t, kOr_f, mIfE_ap, kIfE_t, kIfE_f, mAndV_ap, kAndV_t, kAndV_f, mOrV_ap, kOrV_t, kOrV_f, mNotV_ap, kNotV_ap, mTup_ap, kTup_ap, mLst_ap, kLst_ap, mNoPart_ap, mPart_ap, kInt_ap, mSl_ap, kSl1_ap, kSl2_ap, kSl3_ap, mChain_ap, kCh0_ap, kCh1_ap, kCh2_t, kCh2_f, kCh3_ap, mPutD_ap, kP1_ap, kP2_ap, kP3_ap, runDef_ap, fin_nx, fin_rt, fin_exc, mYes_ap, add_ii, iadd_ii, add_ss, sub_ii, mul_ii, mul_si, mod_ii, fdiv_ii, pow_ii, neg_i, ord_ii, ord_ss, eq_ii, ne_ii, eq_ss, ne_ss, is_non, isn_non, int_i, len_s, len_t, min_ii, sl_s, in_c, nin_c, split_s, str1_ss, find4_s, ty_str, ord_c, iR1_ap, itR1_i, iS_ap, itS_s, iT_ap, itT_t, iE_ap, oD_some, len_r, oLen_l, oLen_r, oKey_s, it_ref, itH_r, itH_t, itH_s, oIH_d, oIH_l, oIH_r, tupF_r, oTupF_l, mTupF_ap, kTupF_ap, seq_t, seq_s, seq_r, oSeq_l, mStar_ap, kSt_ap, kSt1_s, kSt2_ap, lst_d, oLst_s, mTupRev_ap, kRev_t, kRev_s, len_st, min_l, oTy_t, oTy_d, isi_i, isi_s, mIdx_ap, kIx_s, kIxs_ap, kIx1_s, iA_ap, itA_t, itA_s, oItem_d, oItem_l, oItem_r, it_tup, oC_some, it_str, keyD_s, keyD_i, app_r, oApp_l, ext_r, oExt_l, ty_ref, oTy_l, isi_ref, oIsi_l, put_ref, oPut_d, oPutK_s, oBls_s, all_r, oAll_l, tup_r, oTup_l, itE_r, oEnum_l, slT_t, addL_r, oCat_l, lenQ_r, oLenQ_d, isiT_t, isiT_i, isiT_s, isiT_n, mInK_ap, kInK_s, mAtK_ap, kAtK_s, kAtK1_s, mPar_ap, kPar_ap, mPutJ_ap, kJ1_ap, kJ2_ap, mRaise_ap, kRaise_1, get1_r, List.map_cons, List.map_nil, List.length_cons, List.length_nil, List.replicate, List.cons_append, List.nil_append, List.set_cons_zero, List.set_cons_succ, List.getElem?_cons_zero, List.getElem?_cons_succ, Nat.reduceSub, Nat.reduceAdd, Nat.reduceLeDiff, Nat.reduceLT,  cond_true, cond_false, if_true, if_false, ite_true, ite_false, Bool.false_eq_true, reduceIte, Nat.zero_add, Option.bind_some, ne_eq, Int.reduceEq, not_false_eq_true, not_true_eq_false, decide_true, decide_false, Bool.not_true, Bool.not_false, *])

theorem due3_loop {S Kd : Nat} {L : List D} {kn : Kn} {x0 x1 x3 : Option D} : ∀ {ss : List Stp} {h : HP} {x4 x5 x6 x7 x8 x9 : Option D}, h[S]? = some (.lst L) → h[Kd]? = some (.dic (eK kn)) → (∀ s ∈ ss, shS s ∧ nb s = true) →
    ∃ h', X0 h h' ∧ (ss.findSome? (wrong kn) = none → ∃ y4 y5 y6 y7 y8 y9, mLoop (fun h => h[S]? = some (.lst L)) g4 L_u_law_due_3 (ss.map eL) [x0, x1, some (.ref Kd), x3, x4, x5, x6, x7, x8, x9] h = .nx [x0, x1, some (.ref Kd), x3, y4, y5, y6, y7, y8, y9] h') ∧
      ∀ w, ss.findSome? (wrong kn) = some w → mLoop (fun h => h[S]? = some (.lst L)) g4 L_u_law_due_3 (ss.map eL) [x0, x1, some (.ref Kd), x3, x4, x5, x6, x7, x8, x9] h = .rt (.tup [.str "wrong", .str w]) h'
  | [], h, x4, x5, x6, x7, x8, x9, eS, e, _ => ⟨h, X0.refl _, fun _ => ⟨x4, x5, x6, x7, x8, x9, mLoop_nil eS⟩, fun w h => by cases h⟩
  | s :: ss, h, x4, x5, x6, x7, x8, x9, eS, e, sh => by
    obtain ⟨s0, n0⟩ := sh s List.mem_cons_self
    obtain ⟨y4, y5, y6, y7, y8, y9, h1, e1, x1', p, q⟩ := due3_ok n0 e s0 (x0 := x0) (x1 := x1) (x3 := x3) (x4 := x4) (x5 := x5) (x6 := x6) (x7 := x7) (x8 := x8) (x9 := x9)
    rw [List.findSome?_cons]
    cases w0 : wrong kn s with
    | some w1 =>
      refine ⟨h1, x1', fun h => by simp at h, fun w hw => ?_⟩
      simp at hw
      subst hw
      exact mLoop_rt eS e1 (q _ w0)
    | none =>
      obtain ⟨h2, x2', p2, q2⟩ := due3_loop (ss := ss) (x0 := x0) (x1 := x1) (x3 := x3) (x4 := y4) (x5 := y5) (x6 := y6) (x7 := y7) (x8 := y8) (x9 := y9) (x1'.at' _ _ eS) (x1'.at' _ _ e) fun s hs => sh s (List.mem_cons_of_mem _ hs)
      refine ⟨h2, x1'.trans x2', fun h => ?_, fun w hw => ?_⟩
      · obtain ⟨z4, z5, z6, z7, z8, z9, e3⟩ := p2 h
        exact ⟨z4, z5, z6, z7, z8, z9, (mLoop_nx eS e1 (.inl (p w0))).trans e3⟩
      · exact (mLoop_nx eS e1 (.inl (p w0))).trans (q2 w hw)
def p1 (x : Str) : Str := (Txt.partition x ".").1
theorem due4_ok {x : Str} (hx : x ∈ NM) {h : HP} {Kd : Nat} {kn : Kn} (e : h[Kd]? = some (.dic (eK kn))) {x0 x1 x3 x4 x5 x6 x8 x9 : Option D} :
    (nk kn x = false → L_u_law_due_4 [x0, x1, some (.ref Kd), x3, x4, x5, x6, some (.str x), x8, x9] h = .nx [x0, x1, some (.ref Kd), x3, x4, x5, x6, some (.str x), x8, x9] h) ∧
    (nk kn x = true → ∃ h', X0 h h' ∧ L_u_law_due_4 [x0, x1, some (.ref Kd), x3, x4, x5, x6, some (.str x), x8, x9] h = .rt (.tup [.str "none", .str (p1 x)]) h') := by
  have ni := nin_d (x := x) e
  constructor
  · intro q
    have z : (kn.lookup x).isNone = false := q
    rw [z] at ni
    unfold L_u_law_due_4
    clear q z e
    walk_at "pm"
  · intro q
    have z : (kn.lookup x).isNone = true := q
    rw [z] at ni
    obtain ⟨⟨l1, _⟩, hd⟩ := nm_ok x hx
    obtain ⟨rest, hr⟩ : ∃ rest, Txt.split x "." = p1 x :: rest := by
      cases q : Txt.split x "." with
      | nil => rw [q] at hd; cases hd
      | cons a b => rw [q] at hd; cases hd; exact ⟨b, rfl⟩
    have sp : splitG (.str x) [.str "."] h = some (.ref h.length, h ++ [.lst (.str (p1 x) :: rest.map D.str)]) := by
      rw [split_s ⟨by decide +kernel, by omega⟩, hr]
      rfl
    have g : (h ++ [Ob.lst (.str (p1 x) :: rest.map D.str)])[h.length]? = some (.lst (.str (p1 x) :: rest.map D.str)) := last_get
    have a0 := @at0 (.str (p1 x)) (rest.map D.str)
    refine ⟨_, X0.app h [Ob.lst (.str (p1 x) :: rest.map D.str)], ?_⟩
    unfold L_u_law_due_4
    generalize p1 x = px at *
    generalize rest.map D.str = rr at *
    clear q z e hd hr
    walk_at "pm"
theorem due4_loop {r Kd : Nat} {L : List D} {kn : Kn} {x0 x1 x3 x4 x5 x6 x8 x9 : Option D} {h : HP} (er : h[r]? = some (.lst L)) (e : h[Kd]? = some (.dic (eK kn))) : ∀ {xs : List Str} {x7 : Option D}, (∀ x ∈ xs, x ∈ NM) →
    (xs.find? (nk kn) = none → ∃ y7, mLoop (fun h => h[r]? = some (.lst L)) (gN 7) L_u_law_due_4 (dS xs) [x0, x1, some (.ref Kd), x3, x4, x5, x6, x7, x8, x9] h = .nx [x0, x1, some (.ref Kd), x3, x4, x5, x6, y7, x8, x9] h) ∧
      ∀ w, xs.find? (nk kn) = some w → ∃ h', X0 h h' ∧ mLoop (fun h => h[r]? = some (.lst L)) (gN 7) L_u_law_due_4 (dS xs) [x0, x1, some (.ref Kd), x3, x4, x5, x6, x7, x8, x9] h = .rt (.tup [.str "none", .str (p1 w)]) h'
  | [], x7, _ => ⟨fun _ => ⟨x7, mLoop_nil er⟩, fun w h => by cases h⟩
  | x :: xs, x7, hx => by
    obtain ⟨p, q⟩ := due4_ok (hx x List.mem_cons_self) e (x0 := x0) (x1 := x1) (x3 := x3) (x4 := x4) (x5 := x5) (x6 := x6) (x8 := x8) (x9 := x9)
    rw [List.find?_cons]
    cases w0 : nk kn x with
    | true =>
      obtain ⟨h1, x1', e1⟩ := q w0
      refine ⟨fun h => by simp at h, fun w hw => ?_⟩
      simp at hw
      subst hw
      exact ⟨h1, x1', mLoop_rt er rfl e1⟩
    | false =>
      obtain ⟨p2, q2⟩ := due4_loop er e (xs := xs) (x7 := some (.str x)) (fun s hs => hx s (List.mem_cons_of_mem _ hs)) (x0 := x0) (x1 := x1) (x3 := x3) (x4 := x4) (x5 := x5) (x6 := x6) (x8 := x8) (x9 := x9)
      refine ⟨fun h => ?_, fun w hw => ?_⟩
      · obtain ⟨y7, e3⟩ := p2 h
        exact ⟨y7, (mLoop_nx er rfl (.inl (p w0))).trans e3⟩
      · obtain ⟨h', x', e3⟩ := q2 w hw
        exact ⟨h', x', (mLoop_nx er rfl (.inl (p w0))).trans e3⟩
inductive DRes (c : Co) (F : Kn) (h : HP) (r : R D) : Prop
  | wr (w : Str) (h' : HP) (e : (sC c).findSome? (wrong F) = some w) (q : r = .ok (.tup [.str "wrong", .str w]) h') (x : X0 h h')
  | no (w : Str) (h' : HP) (e0 : (sC c).findSome? (wrong F) = none) (e : (aN c).find? (nk F) = some w) (q : r = .ok (.tup [.str "none", .str (p1 w)]) h') (x : X0 h h')
  | ok (Kd : Nat) (h' : HP) (e0 : (sC c).findSome? (wrong F) = none) (e : (aN c).find? (nk F) = none) (q : r = .ok (.ref Kd) h') (x : X0 h h') (g : h'[Kd]? = some (.dic (eK F)))
theorem due_ok {c : Co} (ok : okC c 4) (l : lC c) (ns : ∀ s ∈ sC c, nS s) (sh : ∀ s ∈ sC c, shS s) (an : ∀ x ∈ aN c, x ∈ NM) (h : HP) : DRes c (it (sC c) 12) h (m_u_law_due [eC c] h) := by
  obtain ⟨S, h1, e1, x1', g1⟩ := ls_ok 20 c 4 ok (by omega) (by omega) l h
  have nsl : ∀ s ∈ lS c, nS s ∧ nb s = true := fun s hs => ⟨ns s (List.mem_filter.mp hs).1, (List.mem_filter.mp hs).2⟩
  have shl : ∀ s ∈ lS c, shS s ∧ nb s = true := fun s hs => ⟨sh s (List.mem_filter.mp hs).1, (List.mem_filter.mp hs).2⟩
  have hS := get_lt g1
  have hne : S ≠ h1.length := by omega
  have i0 : DI (lS c) S h1.length (eC c) (h1 ++ [Ob.dic []]) 0 [some (eC c), some (.ref S), some (.ref h1.length), none, none, none, none, none, none, none] (h1 ++ [Ob.dic []]) := ⟨none, none, none, none, none, rfl, (X0.app _ _).at' _ _ g1, last_get, Fr.refl _ _⟩
  obtain ⟨s2, h2, e2, i2⟩ := loop_idx (g := gN 3) (p := L_u_law_due_1) (Inv := DI (lS c) S h1.length (eC c) (h1 ++ [Ob.dic []])) (n := 12) (k := 0) (fun m _ _ s h i => due1_ok hne nsl i) i0
  obtain ⟨x3, x4, x5, x6, x7, rfl, eS2, eK2, f2⟩ := i2
  have ei : it (lS c) (0 + 12) = it (sC c) 12 := it_nb _ _
  rw [ei] at eK2
  generalize it (sC c) 12 = F at *
  have x2' : X0 h h2 := (x1'.trans (X0.app h1 [Ob.dic []])).of_fr f2 (by have := x1'.len; omega)
  have ri : ∀ hh, itR1 [.int 12] hh = .ok ((List.range' 0 12).map fun (i : Nat) => .int (0 + (i : Int)), fun _ => True) hh := fun hh => by rw [itR1_i ⟨by omega, by omega⟩, List.range_eq_range']; rfl
  have mf1 : mFor (iR1 (mCons (mC (.int 12)) (mNil))) (gN 3) (L_u_law_due_1) [some (eC c), some (.ref S), some (.ref h1.length), none, none, none, none, none, none, none] (h1 ++ [Ob.dic []]) = .nx [some (eC c), some (.ref S), some (.ref h1.length), x3, x4, x5, x6, x7, none, none] h2 := by
    refine (mFor_ok (xs := (List.range' 0 12).map fun (i : Nat) => .int (0 + (i : Int))) (G := fun _ => True) (h' := h1 ++ [Ob.dic []]) ?_).trans e2
    generalize eC c = zc at *
    clear e2 eK2 eS2 g1 e1 i0
    walk_at "pm"
  have md : ∀ s (hh : HP), mDict0 s hh = .ok (.ref hh.length) (hh ++ [.dic []]) := fun _ _ => rfl
  have run : ∀ Z : MS, mSeq (mSet 1 (mCall (m_u_law_steps 20) (mCons (mVar 0) (mNil)))) (mSeq (mSet 2 (mDict0)) (mSeq (mFor (iR1 (mCons (mC (.int 12)) (mNil))) (gN 3) (L_u_law_due_1)) Z)) [some (eC c), none, none, none, none, none, none, none, none, none] h = Z [some (eC c), some (.ref S), some (.ref h1.length), x3, x4, x5, x6, x7, none, none] h2 := fun Z => by
    clear e2 eK2 eS2 g1 i0 ei ok l ns sh an nsl shl
    generalize eC c = zc at *
    walk_at "pm"
  have top : m_u_law_due [eC c] h = fin (mSeq (mFor (iA (mVar 1)) g4 (L_u_law_due_3)) (mSeq (mFor (iA (mCall (m_u_law_all 20) (mCons (mVar 0) (mNil)))) (gN 7) (L_u_law_due_4)) (mRet (mVar 2))) [some (eC c), some (.ref S), some (.ref h1.length), x3, x4, x5, x6, x7, none, none] h2) := by
    unfold m_u_law_due b_u_law_due
    rw [runDef_ap]
    exact congrArg fin (run _)
  obtain ⟨h3, x3', p3, q3⟩ := due3_loop (ss := lS c) (x0 := some (eC c)) (x1 := some (.ref S)) (x3 := x3) (x4 := x4) (x5 := x5) (x6 := x6) (x7 := x7) (x8 := none) (x9 := none) eS2 eK2 shl
  have wn : (lS c).findSome? (wrong F) = (sC c).findSome? (wrong F) := wrong_nb F (sC c)
  rw [wn] at p3 q3
  have mf3 : mFor (iA (mVar 1)) g4 (L_u_law_due_3) [some (eC c), some (.ref S), some (.ref h1.length), x3, x4, x5, x6, x7, none, none] h2 = mLoop (fun hh => hh[S]? = some (.lst ((lS c).map eL))) g4 L_u_law_due_3 ((lS c).map eL) [some (eC c), some (.ref S), some (.ref h1.length), x3, x4, x5, x6, x7, none, none] h2 := mFor_ok (itA_l eS2)
  cases w : (sC c).findSome? (wrong F) with
  | some w1 =>
    refine .wr w1 h3 w ?_ (x2'.trans x3')
    rw [top, mSeq_ap, mf3, q3 w1 w]
    rfl
  | none =>
    obtain ⟨y4, y5, y6, y7, y8, y9, e3⟩ := p3 w
    obtain ⟨r4, h4, e4, x4', g4'⟩ := la_ok 20 c 4 ok (by omega) (by omega) l h3
    have eK4 := x4'.at' _ _ (x3'.at' _ _ eK2)
    obtain ⟨p4, q4⟩ := due4_loop g4' eK4 (xs := aN c) (x7 := y7) an (x0 := some (eC c)) (x1 := some (.ref S)) (x3 := x3) (x4 := y4) (x5 := y5) (x6 := y6) (x8 := y8) (x9 := y9)
    have mf4 : mFor (iA (mCall (m_u_law_all 20) (mCons (mVar 0) (mNil)))) (gN 7) (L_u_law_due_4) [some (eC c), some (.ref S), some (.ref h1.length), x3, y4, y5, y6, y7, y8, y9] h3 = mLoop (fun hh => hh[r4]? = some (.lst (dS (aN c)))) (gN 7) L_u_law_due_4 (dS (aN c)) [some (eC c), some (.ref S), some (.ref h1.length), x3, y4, y5, y6, y7, y8, y9] h4 := by
      refine mFor_ok ?_
      have il := itA_l g4'
      clear p4 q4 e3 mf3 p3 q3 top run mf1
      generalize eC c = zc at *
      generalize dS (aN c) = za at *
      walk_at "pm"
    cases u : (aN c).find? (nk F) with
    | some u1 =>
      obtain ⟨h5, x5', e5⟩ := q4 u1 u
      refine .no u1 h5 w u ?_ (((x2'.trans x3').trans x4').trans x5')
      rw [top, mSeq_ap, mf3, e3, seq_nx, mSeq_ap, mf4, e5]
      rfl
    | none =>
      obtain ⟨z7, e5⟩ := p4 u
      refine .ok h1.length h4 w u ?_ ((x2'.trans x3').trans x4') eK4
      rw [top, mSeq_ap, mf3, e3, seq_nx, mSeq_ap, mf4, e5]
      rfl
end K13
end
section
set_option Elab.async false
set_option linter.all false
set_option maxRecDepth 100000
set_option maxHeartbeats 4000000
namespace K13
open PySem L2 PM
local macro_rules | `(tactic| walk_at "pm") => `(tactic| simp (config := { decide := true }) only [bind_ok, toS_ok, seq_nx, seq_rt, seq_bk, seq_ct, seq_exc, bind_exc, toS_exc, mSeq_ap, mNext_ap, mSet_ap, kSet_ap, mAsg_ap, kAsg_ap, ofS_some, gN_ap, gTup_ap, gCons_ap, gNil_ap, mDrop_ap, kDrop_ap, mRet_ap, mRetN_ap, mIfS_ap, kIf_t, kIf_f, mBreak_ap, mCont_ap, mBad_ap, mAug_ap, kAug_ap, mVar_ap, mC_ap, m1_ap, k1_ap, m2_ap, k2_ap, k2'_ap, ofO_some, mNil_ap, mCons_ap, kC_ap, kC'_ap, mCall_ap, mB_ap, kB_ap, mMeth_ap, kM_ap, kM'_ap, mTest_ap, kBl_ap, mNot_ap, kNot_ap, mAnd_ap, kAnd_t, kAnd_f, mOr_ap, kOr_t, kOr_f, mIfE_ap, kIfE_t, kIfE_f, mAndV_ap, kAndV_t, kAndV_f, mOrV_ap, kOrV_t, kOrV_f, mNotV_ap, kNotV_ap, mTup_ap, kTup_ap, mLst_ap, kLst_ap, mNoPart_ap, mPart_ap, kInt_ap, mSl_ap, kSl1_ap, kSl2_ap, kSl3_ap, mChain_ap, kCh0_ap, kCh1_ap, kCh2_t, kCh2_f, kCh3_ap, mPutD_ap, kP1_ap, kP2_ap, kP3_ap, runDef_ap, fin_nx, fin_rt, fin_exc, mYes_ap, add_ii, iadd_ii, add_ss, sub_ii, mul_ii, mul_si, mod_ii, fdiv_ii, pow_ii, neg_i, ord_ii, ord_ss, eq_ii, ne_ii, eq_ss, ne_ss, is_non, isn_non, int_i, len_s, len_t, min_ii, sl_s, in_c, nin_c, split_s, str1_ss, find4_s, ty_str, ord_c, iR1_ap, itR1_i, iS_ap, itS_s, iT_ap, itT_t, iE_ap, oD_some, len_r, oLen_l, oLen_r, oKey_s, it_ref, itH_r, itH_t, itH_s, oIH_d, oIH_l, oIH_r, tupF_r, oTupF_l, mTupF_ap, kTupF_ap, seq_t, seq_s, seq_r, oSeq_l, mStar_ap, kSt_ap, kSt1_s, kSt2_ap, lst_d, oLst_s, mTupRev_ap, kRev_t, kRev_s, len_st, min_l, oTy_t, oTy_d, isi_i, isi_s, mIdx_ap, kIx_s, kIxs_ap, kIx1_s, iA_ap, itA_t, itA_s, oItem_d, oItem_l, oItem_r, it_tup, oC_some, it_str, keyD_s, keyD_i, app_r, oApp_l, ext_r, oExt_l, ty_ref, oTy_l, isi_ref, oIsi_l, put_ref, oPut_d, oPutK_s, oBls_s, all_r, oAll_l, tup_r, oTup_l, itE_r, oEnum_l, slT_t, addL_r, oCat_l, lenQ_r, oLenQ_d, isiT_t, isiT_i, isiT_s, isiT_n, mInK_ap, kInK_s, mAtK_ap, kAtK_s, kAtK1_s, mPar_ap, kPar_ap, mPutJ_ap, kJ1_ap, kJ2_ap, mRaise_ap, kRaise_1, get1_r, List.map_cons, List.map_nil, List.length_cons, List.length_nil, List.replicate, List.cons_append, List.nil_append, List.set_cons_zero, List.set_cons_succ, List.getElem?_cons_zero, List.getElem?_cons_succ, Nat.reduceSub, Nat.reduceAdd, Nat.reduceLeDiff, Nat.reduceLT,  cond_true, cond_false, if_true, if_false, ite_true, ite_false, Bool.false_eq_true, reduceIte, Nat.zero_add, Option.bind_some, ne_eq, Int.reduceEq, not_false_eq_true, not_true_eq_false, decide_true, decide_false, Bool.not_true, Bool.not_false, *])

def WN : List Str := ["p", "q", "=", "<", "<=", "+", "-", "sum", "least", "most", "count"]
theorem wn_ok : ∀ w ∈ WN, w.length ≤ 1000 ∧ PyData.strOk w = true := by
  intro x hx
  unfold WN at hx
  simp only [List.mem_cons, List.not_mem_nil, or_false] at hx
  rcases hx with rfl | rfl | rfl | rfl | rfl | rfl | rfl | rfl | rfl | rfl | rfl <;> decide +kernel
theorem p1_ok : ∀ x ∈ NM, PyData.strOk (p1 x) = true := by
  intro x hx
  unfold NM at hx
  simp only [List.mem_cons, List.not_mem_nil, or_false] at hx
  rcases hx with rfl | rfl | rfl | rfl | rfl | rfl | rfl <;> decide +kernel
theorem nm_str : ∀ x ∈ NM, PyData.strOk x = true := by
  intro x hx
  unfold NM at hx
  simp only [List.mem_cons, List.not_mem_nil, or_false] at hx
  rcases hx with rfl | rfl | rfl | rfl | rfl | rfl | rfl <;> decide +kernel
def wS : Stp → Prop
  | .need _ _ w => w ∈ WN
  | _ => True
theorem wS_sh : ∀ {s : Stp}, wS s → shS s
  | .need _ _ w, h => (wn_ok w h).1
  | .alike _ _, _ => trivial
  | .bound _, _ => trivial
theorem wrong_mem {F : Kn} : ∀ {ss : List Stp} {w : Str}, (∀ s ∈ ss, wS s) → ss.findSome? (wrong F) = some w → w ∈ WN
  | [], w, _, h => by cases h
  | s :: ss, w, ns, h => by
    rw [List.findSome?_cons] at h
    cases q : wrong F s with
    | none => rw [q] at h; exact wrong_mem (fun s hs => ns s (List.mem_cons_of_mem _ hs)) h
    | some y =>
      rw [q] at h
      cases h
      have n0 := ns s List.mem_cons_self
      cases s with
      | need k t w' =>
        have q : wrN (kd F t) k w' = some w := q
        unfold wrN at q
        split at q
        · split at q
          · cases q
          · cases q; exact n0
        · cases q
      | alike l r =>
        have q : wrA (kd F l) (kd F r) = some w := q
        unfold wrA at q
        split at q
        · split at q
          · cases q
          · cases q; unfold WN; simp
        · cases q
      | bound z => cases q
theorem ne_tup2 {a b : Str} (ha : PyData.strOk a = true) (hb : PyData.strOk b = true) (h : HP) : neQ (.tup [.str a, .str b]) (.tup [.str a, .str b]) h = some (.bl false, h) := by
  have sh : SeqAt.shaped (.tuple [.str a, .str b]) = true := by
    unfold SeqAt.shaped
    simp only [PyData.canLay0, PyData.canLayAll0, ha, hb, Bool.and_true, Bool.true_and, PyData.depth, PyData.depthAll]
    rfl
  have eb : eqB (.tup [.str a, .str b]) (.tup [.str a, .str b]) h = some true := by
    have e2 : eqB (.tup [.str a, .str b]) (.tup [.str a, .str b]) h = (match toPy 60 h (.tup [.str a, .str b]), toPy 60 h (.tup [.str a, .str b]) with
      | some p, some q => if SeqAt.shaped p = true ∧ SeqAt.shaped q = true then some (PyData.eqv p q) else none
      | _, _ => none) := rfl
    have e3 : toPy 60 h (.tup [.str a, .str b]) = some (.tuple [.str a, .str b]) := rfl
    rw [e2, e3]
    dsimp only
    rw [if_pos ⟨sh, sh⟩]
    simp [PyData.eqv, PyData.eqvAll]
  have e : neQ (.tup [.str a, .str b]) (.tup [.str a, .str b]) h = eqG true (.tup [.str a, .str b]) (.tup [.str a, .str b]) h := rfl
  rw [e]
  unfold eqG
  rw [eb]; rfl
theorem flat_eK : ∀ (kn : Kn), flatV' (eK kn) = true
  | [] => rfl
  | (x, v) :: kn => by
    have e : flatV' (eK ((x, v) :: kn)) = (true && flatV' (eK kn)) := rfl
    rw [e, flat_eK kn]; rfl
theorem ne_dic {i j : Nat} {F : Kn} {h : HP} (ok : KnOk F) (e1 : h[i]? = some (.dic (eK F))) (e2 : h[j]? = some (.dic (eK F))) : neQ (.ref i) (.ref j) h = some (.bl false, h) := by
  have nd : ((eK F).map (·.1)).Nodup := by
    have : (eK F).map (·.1) = (F.map (·.1)).map (fun x => (.inr x : Key)) := by
      unfold eK
      simp [List.map_map, Function.comp_def]
    rw [this]
    exact List.pairwise_map.mpr (List.Pairwise.imp (fun {a b} (q : a ≠ b) (e : (Sum.inr a : Key) = Sum.inr b) => q (Sum.inr.inj e)) ok.1)
  unfold neQ
  dsimp only
  rw [e1, e2]
  dsimp only
  rw [if_pos ⟨rfl, nd, flat_eK F⟩]
/-- a rule as the law draws them -/
structure Gd (c : Co) (d : Nat) : Prop where
  ok : okC c d
  l : lC c
  ns : ∀ s ∈ sC c, nS s
  w : ∀ s ∈ sC c, wS s
  an : ∀ x ∈ aN c, x ∈ NM
theorem ev_k {s : SD} {h : HP} : mDisp [(mC (.str "p"), mTup (mCons (mC (.str "number")) (mNil))), (mC (.str "q"), mTup (mCons (mC (.str "word")) (mCons (mC (.str "number")) (mNil))))] s h = .ok (.ref h.length) (h ++ [.dic evK]) := by
  rw [disp_ok (qs := [(.str "p", .tup [.str "number"]), (.str "q", .tup [.str "word", .str "number"])]) (kvs := evK) (kvs' := evK) (h2 := h ++ [.dic []]) rfl last_get rfl rfl (by decide), set_last]
theorem told_w {s : SD} {w : Str} {h : HP} (hs : s.length = 2) : kTry (subOf subL) okE [("WrongKind", 1, fCatX (fTup (fCons (fC (.str "wrong")) (fCons (fF "word") (fNil)))) (fTup (fCons (fC (.str "more")) (fNil))) (fOr (fNot (fIs (subOf subL) ["RuleError"])) (fIs (subOf subL) ["NoKind"]))), ("NoKind", 1, fCatX (fTup (fCons (fC (.str "none")) (fCons (fF "word") (fNil)))) (fTup (fCons (fC (.str "more")) (fNil))) (fOr (fNot (fIs (subOf subL) ["RuleError"])) (fNot (fIs (subOf subL) ["WatchError"]))))] (.exc s "WrongKind" [("word", .str w)] h) = .rt (.tup [.str "wrong", .str w]) h := by
  unfold kTry pickC
  dsimp only
  have e1 : subOf subL "WrongKind" "WrongKind" = some true := by decide
  rw [e1]
  dsimp only
  rw [if_pos ⟨by decide, by omega⟩]
  rfl
theorem told_n {s : SD} {w : Str} {h : HP} (hs : s.length = 2) : kTry (subOf subL) okE [("WrongKind", 1, fCatX (fTup (fCons (fC (.str "wrong")) (fCons (fF "word") (fNil)))) (fTup (fCons (fC (.str "more")) (fNil))) (fOr (fNot (fIs (subOf subL) ["RuleError"])) (fIs (subOf subL) ["NoKind"]))), ("NoKind", 1, fCatX (fTup (fCons (fC (.str "none")) (fCons (fF "word") (fNil)))) (fTup (fCons (fC (.str "more")) (fNil))) (fOr (fNot (fIs (subOf subL) ["RuleError"])) (fNot (fIs (subOf subL) ["WatchError"]))))] (.exc s "NoKind" [("word", .str w)] h) = .rt (.tup [.str "none", .str w]) h := by
  unfold kTry pickC
  dsimp only
  have e1 : subOf subL "NoKind" "WrongKind" = some false := by decide
  have e2 : subOf subL "NoKind" "NoKind" = some true := by decide
  rw [e1]
  dsimp only
  unfold pickC
  dsimp only
  rw [e2]
  dsimp only
  rw [if_pos ⟨by decide, by omega⟩]
  rfl
theorem told_due {c : Co} (g : Gd c 4) (h : HP) : ∃ a b h1 h2, m_u_law_told [eC c] h = .ok a h1 ∧ m_u_law_due [eC c] h1 = .ok b h2 ∧ X0 h h2 ∧ neQ a b h2 = some (.bl false, h2) := by
  have sh : ∀ s ∈ sC c, shS s := fun s hs => wS_sh (g.w s hs)
  have evg : (h ++ [Ob.dic evK])[h.length]? = some (.dic evK) := last_get
  obtain ⟨fx, kr⟩ := kinds_ok g.ok g.ns sh evg
  have uq : (sC c).findSome? (unk (it (sC c) 12)) = (aN c).find? (nk (it (sC c) 12)) := unk_C g.ok (fix_step fx)
  have okF : KnOk (it (sC c) 12) := it_kn g.ns 12
  have du : ∀ hh, DRes c (it (sC c) 12) hh (m_u_law_due [eC c] hh) := fun hh => due_ok g.ok g.l g.ns sh g.an hh
  generalize it (sC c) 12 = F at *
  have x0 : X0 h (h ++ [Ob.dic evK]) := X0.app _ _
  have top : ∀ (r : R D), m_kinds_of [eC c, .ref h.length] (h ++ [Ob.dic evK]) = r → m_u_law_told [eC c] h = fin (kTry (subOf subL) okE [("WrongKind", 1, fCatX (fTup (fCons (fC (.str "wrong")) (fCons (fF "word") (fNil)))) (fTup (fCons (fC (.str "more")) (fNil))) (fOr (fNot (fIs (subOf subL) ["RuleError"])) (fIs (subOf subL) ["NoKind"]))), ("NoKind", 1, fCatX (fTup (fCons (fC (.str "none")) (fCons (fF "word") (fNil)))) (fTup (fCons (fC (.str "more")) (fNil))) (fOr (fNot (fIs (subOf subL) ["RuleError"])) (fNot (fIs (subOf subL) ["WatchError"]))))] (r.toS [some (eC c), none] fun x h => .rt x h)) := fun r hr => by
    unfold m_u_law_told b_u_law_told
    rw [runDef_ap]
    have ek := @ev_k
    have e : (mRet (mCall m_kinds_of (mCons (mVar 0) (mCons (mDisp [(mC (.str "p"), mTup (mCons (mC (.str "number")) (mNil))), (mC (.str "q"), mTup (mCons (mC (.str "word")) (mCons (mC (.str "number")) (mNil))))]) (mNil))))) [some (eC c), none] h = r.toS [some (eC c), none] fun x h => .rt x h := by
      rw [← hr]
      clear evg kr fx uq du
      generalize eC c = zc at *
      walk_at "pm"
    show fin (kTry _ _ _ ((mRet _) [some (eC c), none] h)) = _
    rw [e]
  cases kr with
  | wr w h' e q x =>
    have t1 := top _ q
    rw [toS_exc, told_w rfl, fin_rt] at t1
    cases du h' with
    | wr w2 h2 e2 q2 x2 =>
      rw [e] at e2
      cases e2
      exact ⟨_, _, _, _, t1, q2, (x0.trans x).trans x2, ne_tup2 (by decide +kernel) (wn_ok w (wrong_mem g.w e)).2 _⟩
    | no w2 h2 e0 e2 q2 x2 => rw [e] at e0; cases e0
    | ok K2 h2 e0 e2 q2 x2 g2 => rw [e] at e0; cases e0
  | no w h' e0 e q x =>
    have t1 := top _ q
    unfold noE at t1
    rw [toS_exc, told_n rfl, fin_rt] at t1
    have wm := unk_mem g.ns e
    cases du h' with
    | wr w2 h2 e2 q2 x2 => rw [e0] at e2; cases e2
    | no w2 h2 e1 e2 q2 x2 =>
      rw [uq] at e
      rw [e] at e2
      cases e2
      exact ⟨_, _, _, _, t1, q2, (x0.trans x).trans x2, ne_tup2 (by decide +kernel) (p1_ok w wm) _⟩
    | ok K2 h2 e1 e2 q2 x2 g2 => rw [uq] at e; rw [e] at e2; cases e2
  | ok Kd h' e0 e q x gk =>
    have t1 := top _ q
    rw [toS_ok] at t1
    have k1 : ∀ (cl : List (Str × Nat × MF)), kTry (subOf subL) okE cl (.rt (.ref Kd) h') = .rt (.ref Kd) h' := fun _ => rfl
    rw [k1, fin_rt] at t1
    cases du h' with
    | wr w2 h2 e2 q2 x2 => rw [e0] at e2; cases e2
    | no w2 h2 e1 e2 q2 x2 => rw [uq] at e; rw [e] at e2; cases e2
    | ok K2 h2 e1 e2 q2 x2 g2 => exact ⟨_, _, _, _, t1, q2, (x0.trans x).trans x2, ne_dic okF (x2.at' _ _ gk) g2⟩
end K13
end
section
set_option Elab.async false
set_option linter.all false
set_option maxRecDepth 100000
set_option maxHeartbeats 4000000
namespace K13
open PySem L2 PM
local macro_rules | `(tactic| walk_at "pm") => `(tactic| simp (config := { decide := true }) only [bind_ok, toS_ok, seq_nx, seq_rt, seq_bk, seq_ct, seq_exc, bind_exc, toS_exc, mSeq_ap, mNext_ap, mSet_ap, kSet_ap, mAsg_ap, kAsg_ap, ofS_some, gN_ap, gTup_ap, gCons_ap, gNil_ap, mDrop_ap, kDrop_ap, mRet_ap, mRetN_ap, mIfS_ap, kIf_t, kIf_f, mBreak_ap, mCont_ap, mBad_ap, mAug_ap, kAug_ap, mVar_ap, mC_ap, m1_ap, k1_ap, m2_ap, k2_ap, k2'_ap, ofO_some, mNil_ap, mCons_ap, kC_ap, kC'_ap, mCall_ap, mB_ap, kB_ap, mMeth_ap, kM_ap, kM'_ap, mTest_ap, kBl_ap, mNot_ap, kNot_ap, mAnd_ap, kAnd_t, kAnd_f, mOr_ap, kOr_t, kOr_f, mIfE_ap, kIfE_t, kIfE_f, mAndV_ap, kAndV_t, kAndV_f, mOrV_ap, kOrV_t, kOrV_f, mNotV_ap, kNotV_ap, mTup_ap, kTup_ap, mLst_ap, kLst_ap, mNoPart_ap, mPart_ap, kInt_ap, mSl_ap, kSl1_ap, kSl2_ap, kSl3_ap, mChain_ap, kCh0_ap, kCh1_ap, kCh2_t, kCh2_f, kCh3_ap, mPutD_ap, kP1_ap, kP2_ap, kP3_ap, runDef_ap, fin_nx, fin_rt, fin_exc, mYes_ap, add_ii, iadd_ii, add_ss, sub_ii, mul_ii, mul_si, mod_ii, fdiv_ii, pow_ii, neg_i, ord_ii, ord_ss, eq_ii, ne_ii, eq_ss, ne_ss, is_non, isn_non, int_i, len_s, len_t, min_ii, sl_s, in_c, nin_c, split_s, str1_ss, find4_s, ty_str, ord_c, iR1_ap, itR1_i, iS_ap, itS_s, iT_ap, itT_t, iE_ap, oD_some, len_r, oLen_l, oLen_r, oKey_s, it_ref, itH_r, itH_t, itH_s, oIH_d, oIH_l, oIH_r, tupF_r, oTupF_l, mTupF_ap, kTupF_ap, seq_t, seq_s, seq_r, oSeq_l, mStar_ap, kSt_ap, kSt1_s, kSt2_ap, lst_d, oLst_s, mTupRev_ap, kRev_t, kRev_s, len_st, min_l, oTy_t, oTy_d, isi_i, isi_s, mIdx_ap, kIx_s, kIxs_ap, kIx1_s, iA_ap, itA_t, itA_s, oItem_d, oItem_l, oItem_r, it_tup, oC_some, it_str, keyD_s, keyD_i, app_r, oApp_l, ext_r, oExt_l, ty_ref, oTy_l, isi_ref, oIsi_l, put_ref, oPut_d, oPutK_s, oBls_s, all_r, oAll_l, tup_r, oTup_l, itE_r, oEnum_l, slT_t, addL_r, oCat_l, lenQ_r, oLenQ_d, isiT_t, isiT_i, isiT_s, isiT_n, mInK_ap, kInK_s, mAtK_ap, kAtK_s, kAtK1_s, mPar_ap, kPar_ap, mPutJ_ap, kJ1_ap, kJ2_ap, mRaise_ap, kRaise_1, get1_r, List.map_cons, List.map_nil, List.length_cons, List.length_nil, List.replicate, List.cons_append, List.nil_append, List.set_cons_zero, List.set_cons_succ, List.getElem?_cons_zero, List.getElem?_cons_succ, Nat.reduceSub, Nat.reduceAdd, Nat.reduceLeDiff, Nat.reduceLT,  cond_true, cond_false, if_true, if_false, ite_true, ite_false, Bool.false_eq_true, reduceIte, Nat.zero_add, Option.bind_some, ne_eq, Int.reduceEq, not_false_eq_true, not_true_eq_false, decide_true, decide_false, Bool.not_true, Bool.not_false, *])

theorem Dr.at {o : Int} {row : List Int} {h : HP} (a : Dr o row h) : ∃ kvs, h[2]? = some (.dic kvs) ∧ getK kvs (.inr "odd") = some (.int o) := by
  obtain ⟨n, s⟩ := a.ex
  exact ⟨_, s.d, rfl⟩
theorem odd_ok {o : Int} {row : List Int} {h : HP} (a : Dr o row h) : ∃ b h', m_u_law_odd [.ref 2] h = .ok (.bl b) h' ∧ Dr o row h' ∧ Fr 2 h h' := by
  obtain ⟨kvs, g, gk⟩ := a.at
  have ks := ki_s "odd"
  by_cases c : 0 < o
  · obtain ⟨j, h', e, jr, a', f⟩ := pickD a c
    refine ⟨decide (j = 0), h', ?_, a', f⟩
    have c' := eq_true c
    unfold m_u_law_odd b_u_law_odd
    clear c a a' f jr
    walk_at "pm"
  · refine ⟨false, h, ?_, a, Fr.refl _ _⟩
    have c' := eq_false c
    unfold m_u_law_odd b_u_law_odd
    clear c a
    walk_at "pm"
/-- one of a list just made -/
theorem lp_ok {o : Int} {row : List Int} {h : HP} (xs : List D) {m : Int} (hm : (xs.length : Int) = m) (h0 : 0 < m) (a : Dr o row h) : ∃ x ∈ xs, ∃ j h', m_u_law_pick [.ref 2, .int m] (h ++ [.lst xs]) = .ok (.int j) h' ∧ h'[h.length]? = some (.lst xs) ∧ atI xs j = some x ∧ Dr o row h' ∧ Fr 2 h h' := by
  have a1 := a.x0 (X0.app h [Ob.lst xs])
  obtain ⟨j, h', e, jr, a', f⟩ := pickD a1 h0
  obtain ⟨x, hx, ea⟩ := at_in (xs := xs) (j := j) (by omega)
  have := a.gt
  exact ⟨x, hx, j, h', e, f.at' _ _ (by omega) last_get, ea, a', (X0.app h [Ob.lst xs]).fr.trans f⟩
/-! terms -/
structure GT (t : Tm) (d : Nat) : Prop where
  ok : okT t d
  l : lT t
  ns : ∀ s ∈ sT t, nS s ∧ wS s
  an : ∀ x ∈ nT t, x ∈ NM
  n1 : nT1 t
theorem GT.nm {x : Str} {d : Nat} (h : x ∈ NM) : GT (.nm x) d := by
  refine ⟨trivial, nm_str x h, fun s hs => ?_, fun y hy => ?_, h⟩
  · cases hs
  · have : y = x := by simpa [nT] using hy
    rw [this]; exact h
theorem GT.num {i : Int} {d : Nat} : GT (.num i) d := ⟨trivial, trivial, (fun s hs => nomatch (hs : s ∈ ([] : List Stp))), (fun s hs => nomatch (hs : s ∈ ([] : List Str))), trivial⟩
theorem sa_ok : PyData.strOk "a" = true := by decide +kernel
theorem GT.txt {d : Nat} : GT (.txt "a") d := ⟨trivial, sa_ok, (fun s hs => nomatch (hs : s ∈ ([] : List Stp))), (fun s hs => nomatch (hs : s ∈ ([] : List Str))), trivial⟩
theorem bs_wn (b : Bool) : bs b ∈ WN := by cases b <;> (unfold bs WN; simp)
theorem GT.bin {b : Bool} {l r : Tm} {d : Nat} (hl : GT l d) (hr : GT r d) : GT (.bin b l r) (d + 1) := by
  refine ⟨⟨d, rfl, hl.ok, hr.ok⟩, ⟨hl.l, hr.l⟩, fun s hs => ?_, fun x hx => ?_, trivial⟩
  · have hs : s ∈ sT l ++ Stp.need "number" l (bs b) :: (sT r ++ [Stp.need "number" r (bs b)]) := hs
    rw [List.mem_append, List.mem_cons, List.mem_append, List.mem_singleton] at hs
    rcases hs with hs | rfl | hs | rfl
    · exact hl.ns s hs
    · exact ⟨hl.n1, bs_wn b⟩
    · exact hr.ns s hs
    · exact ⟨hr.n1, bs_wn b⟩
  · have hx : x ∈ nT l ++ nT r := hx
    rw [List.mem_append] at hx
    rcases hx with hx | hx
    · exact hl.an x hx
    · exact hr.an x hx
theorem okT_mono : ∀ {t : Tm} {d : Nat}, okT t d → okT t (d + 1)
  | .nm _, _, _ => trivial
  | .num _, _, _ => trivial
  | .txt _, _, _ => trivial
  | .bin _ l r, _, ⟨e, rfl, hl, hr⟩ => ⟨e + 1, rfl, okT_mono hl, okT_mono hr⟩
theorem GT.mono {t : Tm} {d : Nat} (g : GT t d) : GT t (d + 1) := ⟨okT_mono g.ok, g.l, g.ns, g.an, g.n1⟩
def kw (k : Bool) : Str := if k then "number" else "word"
/-- the start of a term: a word or a name, known or not -/
def isN (t : Tm) : Prop := (∃ x ∈ NM, t = .nm x) ∨ t = .num 3 ∨ t = .txt "a"
theorem isN.gt {t : Tm} (h : isN t) (d : Nat) : GT t d := by
  rcases h with ⟨x, hx, rfl⟩ | rfl | rfl
  · exact .nm hx
  · exact .num
  · exact .txt
noncomputable def basT : MS := (mSeq (mIfS (mTest (m2 (eqG false) (mVar 1) (mC (.str "number")))) (mRet (m2 itemH (mLst (mCons (mTup (mCons (mC (.str "num")) (mCons (mC (.int 3)) (mNil)))) (mCons (mTup (mCons (mC (.str "name")) (mCons (mC (.str "x")) (mNil)))) (mCons (mTup (mCons (mC (.str "name")) (mCons (mC (.str "y.4")) (mNil)))) (mCons (mTup (mCons (mC (.str "name")) (mCons (mC (.str "z")) (mNil)))) (mNil)))))) (mCall m_u_law_pick (mCons (mVar 0) (mCons (mC (.int 4)) (mNil)))))) (mNext))
  (mRet (m2 itemH (mLst (mCons (mTup (mCons (mC (.str "text")) (mCons (mC (.str "a")) (mNil)))) (mCons (mTup (mCons (mC (.str "name")) (mCons (mC (.str "u")) (mNil)))) (mCons (mTup (mCons (mC (.str "name")) (mCons (mC (.str "v.7")) (mNil)))) (mNil))))) (mCall m_u_law_pick (mCons (mVar 0) (mCons (mC (.int 3)) (mNil)))))))
theorem basT_ok {o : Int} {row : List Int} {h : HP} (a : Dr o row h) (k : Bool) : ∃ t h', basT [some (.ref 2), some (.str (kw k))] h = .rt (eT t) h' ∧ isN t ∧ Dr o row h' ∧ Fr 2 h h' := by
  cases k with
  | true =>
    obtain ⟨x, hx, j, h', e, g, ea, a', f⟩ := lp_ok [.tup [.str "num", .int 3], .tup [.str "name", .str "x"], .tup [.str "name", .str "y.4"], .tup [.str "name", .str "z"]] (m := 4) rfl (by omega) a
    obtain ⟨t, et, nt⟩ : ∃ t, x = eT t ∧ isN t := by
      simp only [List.mem_cons, List.not_mem_nil, or_false] at hx
      rcases hx with rfl | rfl | rfl | rfl
      · exact ⟨.num 3, rfl, .inr (.inl rfl)⟩
      · exact ⟨.nm "x", rfl, .inl ⟨_, by unfold NM; simp, rfl⟩⟩
      · exact ⟨.nm "y.4", rfl, .inl ⟨_, by unfold NM; simp, rfl⟩⟩
      · exact ⟨.nm "z", rfl, .inl ⟨_, by unfold NM; simp, rfl⟩⟩
    refine ⟨t, h', ?_, nt, a', f⟩
    rw [← et]
    show basT [some (.ref 2), some (.str "number")] h = _
    unfold basT
    clear et nt a a' f hx
    walk_at "pm"
  | false =>
    obtain ⟨x, hx, j, h', e, g, ea, a', f⟩ := lp_ok [.tup [.str "text", .str "a"], .tup [.str "name", .str "u"], .tup [.str "name", .str "v.7"]] (m := 3) rfl (by omega) a
    obtain ⟨t, et, nt⟩ : ∃ t, x = eT t ∧ isN t := by
      simp only [List.mem_cons, List.not_mem_nil, or_false] at hx
      rcases hx with rfl | rfl | rfl
      · exact ⟨.txt "a", rfl, .inr (.inr rfl)⟩
      · exact ⟨.nm "u", rfl, .inl ⟨_, by unfold NM; simp, rfl⟩⟩
      · exact ⟨.nm "v.7", rfl, .inl ⟨_, by unfold NM; simp, rfl⟩⟩
    refine ⟨t, h', ?_, nt, a', f⟩
    rw [← et]
    show basT [some (.ref 2), some (.str "word")] h = _
    unfold basT
    clear et nt a a' f hx
    walk_at "pm"
theorem basic_ok {o : Int} {row : List Int} {h : HP} (a : Dr o row h) (k : Bool) : ∃ t h', m_u_law_basic [.ref 2, .str (kw k)] h = .ok (eT t) h' ∧ isN t ∧ Dr o row h' ∧ Fr 2 h h' := by
  obtain ⟨b, h1, e1, a1, f1⟩ := odd_ok a
  have top : m_u_law_basic [.ref 2, .str (kw k)] h = fin (mSeq (mIfS (mTest (mCall m_u_law_odd (mCons (mVar 0) (mNil)))) (mSet 1 (m2 itemH (mLst (mCons (mC (.str "number")) (mCons (mC (.str "word")) (mNil)))) (mCall m_u_law_pick (mCons (mVar 0) (mCons (mC (.int 2)) (mNil)))))) (mNext)) basT [some (.ref 2), some (.str (kw k))] h) := rfl
  cases b with
  | false =>
    obtain ⟨t, h', e, nt, a', f'⟩ := basT_ok a1 k
    refine ⟨t, h', ?_, nt, a', f1.trans f'⟩
    rw [top]
    generalize basT = B at *
    generalize kw k = kk at *
    generalize eT t = z at *
    clear top a a1 a' f1 f' nt
    walk_at "pm"
  | true =>
    obtain ⟨x, hx, j, h2, e2, g2, ea, a2, f2⟩ := lp_ok [.str "number", .str "word"] (m := 2) rfl (by omega) a1
    obtain ⟨k2, ek⟩ : ∃ k2, x = .str (kw k2) := by
      simp only [List.mem_cons, List.not_mem_nil, or_false] at hx
      rcases hx with rfl | rfl
      · exact ⟨true, rfl⟩
      · exact ⟨false, rfl⟩
    subst ek
    obtain ⟨t, h', e, nt, a', f'⟩ := basT_ok a2 k2
    refine ⟨t, h', ?_, nt, a', (f1.trans f2).trans f'⟩
    rw [top]
    generalize basT = B at *
    generalize kw k = kk at *
    generalize kw k2 = kk2 at *
    generalize eT t = z at *
    clear top a a1 a2 a' f1 f2 f' nt hx
    walk_at "pm"
theorem term_ok {o : Int} {row : List Int} : ∀ (n d : Nat) {h : HP}, d < n → Dr o row h → ∃ t h', m_u_law_term n [.ref 2, .int d] h = .ok (eT t) h' ∧ GT t d ∧ Dr o row h' ∧ Fr 2 h h'
  | 0, d, h, hn, _ => by omega
  | n + 1, 0, h, hn, a => by
    obtain ⟨t, h', e, nt, a', f⟩ := basic_ok a true
    refine ⟨t, h', ?_, nt.gt 0, a', f⟩
    have e : m_u_law_basic [.ref 2, .str "number"] h = .ok (eT t) h' := e
    show runDef 2 (b_u_law_term (m_u_law_term n)) [.ref 2, .int 0] h = _
    unfold b_u_law_term
    generalize eT t = z at *
    clear a a' f nt
    walk_at "pm"
  | n + 1, d + 1, h, hn, a => by
    obtain ⟨j, h1, e1, jr, a1, f1⟩ := pickD a (m := 2) (by omega)
    have c0 : ((0 : Int) < ((d + 1 : Nat) : Int)) = True := eq_true (by omega)
    have cd : (((d + 1 : Nat) : Int) - 1) = (d : Int) := by omega
    by_cases c : j = 0
    · subst c
      obtain ⟨x, hx, j2, h2, e2, g2, ea, a2, f2⟩ := lp_ok [.str "plus", .str "less"] (m := 2) rfl (by omega) a1
      obtain ⟨b, eb⟩ : ∃ b, x = .str (bw b) := by
        simp only [List.mem_cons, List.not_mem_nil, or_false] at hx
        rcases hx with rfl | rfl
        · exact ⟨false, rfl⟩
        · exact ⟨true, rfl⟩
      subst eb
      obtain ⟨l, h3, e3, gl, a3, f3⟩ := term_ok n d (by omega) a2
      obtain ⟨r, h4, e4, nr, a4, f4⟩ := basic_ok a3 true
      refine ⟨.bin b l r, h4, ?_, .bin gl (nr.gt d), a4, ((f1.trans f2).trans f3).trans f4⟩
      have e4 : m_u_law_basic [.ref 2, .str "number"] h3 = .ok (eT r) h4 := e4
      show runDef 2 (b_u_law_term (m_u_law_term n)) [.ref 2, .int ((d + 1 : Nat) : Int)] h = .ok (.tup [.str (bw b), eT l, eT r]) h4
      unfold b_u_law_term
      generalize ((d + 1 : Nat) : Int) = dd at *
      generalize eT l = zl at *
      generalize eT r = zr at *
      generalize bw b = wb at *
      clear a a1 a2 a3 a4 f1 f2 f3 f4 gl nr hx jr
      walk_at "pm"
    · obtain ⟨t, h', e, nt, a', f⟩ := basic_ok a1 true
      refine ⟨t, h', ?_, nt.gt _, a', f1.trans f⟩
      have e : m_u_law_basic [.ref 2, .str "number"] h1 = .ok (eT t) h' := e
      have c' := eq_false c
      show runDef 2 (b_u_law_term (m_u_law_term n)) [.ref 2, .int ((d + 1 : Nat) : Int)] h = _
      unfold b_u_law_term
      generalize ((d + 1 : Nat) : Int) = dd at *
      generalize eT t = z at *
      clear a a1 a' f nt c jr
      walk_at "pm"
end K13
end
section
set_option Elab.async false
set_option linter.all false
set_option maxRecDepth 100000
set_option maxHeartbeats 4000000
namespace K13
open PySem L2 PM
local macro_rules | `(tactic| walk_at "pm") => `(tactic| simp (config := { decide := true }) only [bind_ok, toS_ok, seq_nx, seq_rt, seq_bk, seq_ct, seq_exc, bind_exc, toS_exc, mSeq_ap, mNext_ap, mSet_ap, kSet_ap, mAsg_ap, kAsg_ap, ofS_some, gN_ap, gTup_ap, gCons_ap, gNil_ap, mDrop_ap, kDrop_ap, mRet_ap, mRetN_ap, mIfS_ap, kIf_t, kIf_f, mBreak_ap, mCont_ap, mBad_ap, mAug_ap, kAug_ap, mVar_ap, mC_ap, m1_ap, k1_ap, m2_ap, k2_ap, k2'_ap, ofO_some, mNil_ap, mCons_ap, kC_ap, kC'_ap, mCall_ap, mB_ap, kB_ap, mMeth_ap, kM_ap, kM'_ap, mTest_ap, kBl_ap, mNot_ap, kNot_ap, mAnd_ap, kAnd_t, kAnd_f, mOr_ap, kOr_t, kOr_f, mIfE_ap, kIfE_t, kIfE_f, mAndV_ap, kAndV_t, kAndV_f, mOrV_ap, kOrV_t, kOrV_f, mNotV_ap, kNotV_ap, mTup_ap, kTup_ap, mLst_ap, kLst_ap, mNoPart_ap, mPart_ap, kInt_ap, mSl_ap, kSl1_ap, kSl2_ap, kSl3_ap, mChain_ap, kCh0_ap, kCh1_ap, kCh2_t, kCh2_f, kCh3_ap, mPutD_ap, kP1_ap, kP2_ap, kP3_ap, runDef_ap, fin_nx, fin_rt, fin_exc, mYes_ap, add_ii, iadd_ii, add_ss, sub_ii, mul_ii, mul_si, mod_ii, fdiv_ii, pow_ii, neg_i, ord_ii, ord_ss, eq_ii, ne_ii, eq_ss, ne_ss, is_non, isn_non, int_i, len_s, len_t, min_ii, sl_s, in_c, nin_c, split_s, str1_ss, find4_s, ty_str, ord_c, iR1_ap, itR1_i, iS_ap, itS_s, iT_ap, itT_t, iE_ap, oD_some, len_r, oLen_l, oLen_r, oKey_s, it_ref, itH_r, itH_t, itH_s, oIH_d, oIH_l, oIH_r, tupF_r, oTupF_l, mTupF_ap, kTupF_ap, seq_t, seq_s, seq_r, oSeq_l, mStar_ap, kSt_ap, kSt1_s, kSt2_ap, lst_d, oLst_s, mTupRev_ap, kRev_t, kRev_s, len_st, min_l, oTy_t, oTy_d, isi_i, isi_s, mIdx_ap, kIx_s, kIxs_ap, kIx1_s, iA_ap, itA_t, itA_s, oItem_d, oItem_l, oItem_r, it_tup, oC_some, it_str, keyD_s, keyD_i, app_r, oApp_l, ext_r, oExt_l, ty_ref, oTy_l, isi_ref, oIsi_l, put_ref, oPut_d, oPutK_s, oBls_s, all_r, oAll_l, tup_r, oTup_l, itE_r, oEnum_l, slT_t, addL_r, oCat_l, lenQ_r, oLenQ_d, isiT_t, isiT_i, isiT_s, isiT_n, mInK_ap, kInK_s, mAtK_ap, kAtK_s, kAtK1_s, mPar_ap, kPar_ap, mPutJ_ap, kJ1_ap, kJ2_ap, mRaise_ap, kRaise_1, get1_r, List.map_cons, List.map_nil, List.length_cons, List.length_nil, List.replicate, List.cons_append, List.nil_append, List.set_cons_zero, List.set_cons_succ, List.getElem?_cons_zero, List.getElem?_cons_succ, Nat.reduceSub, Nat.reduceAdd, Nat.reduceLeDiff, Nat.reduceLT,  cond_true, cond_false, if_true, if_false, ite_true, ite_false, Bool.false_eq_true, reduceIte, Nat.zero_add, Option.bind_some, ne_eq, Int.reduceEq, not_false_eq_true, not_true_eq_false, decide_true, decide_false, Bool.not_true, Bool.not_false, *])

def SG : List Str := ["=", "<", "<="]
theorem sg_ok : ∀ w ∈ SG, w ∈ WN ∧ PyData.strOk w = true := by
  intro x hx
  unfold SG at hx
  simp only [List.mem_cons, List.not_mem_nil, or_false] at hx
  rcases hx with rfl | rfl | rfl <;> exact ⟨by unfold WN; simp, by decide +kernel⟩
theorem Gd.cmp {sg : Str} {l r : Tm} {d : Nat} (hs : sg ∈ SG) (gl : GT l 2) (gr : GT r 2) : Gd (.cmp sg l r) d := by
  have e : ∀ s ∈ sC (.cmp sg l r), nS s ∧ wS s := fun s h => by
    by_cases q : sg = "="
    · have es : sC (.cmp sg l r) = sT l ++ (sT r ++ [.alike l r]) := if_pos q
      rw [es, List.mem_append, List.mem_append, List.mem_singleton] at h
      rcases h with h | h | rfl
      · exact gl.ns s h
      · exact gr.ns s h
      · exact ⟨⟨gl.n1, gr.n1⟩, trivial⟩
    · have es : sC (.cmp sg l r) = sT l ++ .need "number" l sg :: (sT r ++ [.need "number" r sg]) := if_neg q
      rw [es, List.mem_append, List.mem_cons, List.mem_append, List.mem_singleton] at h
      rcases h with h | rfl | h | rfl
      · exact gl.ns s h
      · exact ⟨gl.n1, (sg_ok sg hs).1⟩
      · exact gr.ns s h
      · exact ⟨gr.n1, (sg_ok sg hs).1⟩
  refine ⟨⟨gl.ok, gr.ok⟩, ⟨(sg_ok sg hs).2, gl.l, gr.l⟩, fun s h => (e s h).1, fun s h => (e s h).2, fun x hx => ?_⟩
  have hx : x ∈ nT l ++ nT r := hx
  rw [List.mem_append] at hx
  rcases hx with hx | hx
  · exact gl.an x hx
  · exact gr.an x hx
noncomputable def cT2 : MS := (mSeq (mIfS (mTest (mCall m_u_law_odd (mCons (mVar 0) (mNil)))) (mPutJ (mTup (mCons (mC (.str "name")) (mCons (m2 itemH (mLst (mCons (mC (.str "s.1")) (mCons (mC (.str "t")) (mNil)))) (mCall m_u_law_pick (mCons (mVar 0) (mCons (mC (.int 2)) (mNil))))) (mNil)))) (mVar 2) (mCall m_u_law_pick (mCons (mVar 0) (mCons (mC (.int 2)) (mNil))))) (mNext))
  (mRet (mTup (mCons (mC (.str "compare")) (mCons (mVar 1) (mCons (m2 itemH (mVar 2) (mC (.int 0))) (mCons (m2 itemH (mVar 2) (mC (.int 1))) (mNil))))))))
noncomputable def cT1 : MS := (mSeq (mIfS (mAnd (mTest (m2 (eqG false) (mVar 1) (mC (.str "=")))) (mTest (m2 (eqG false) (mCall m_u_law_pick (mCons (mVar 0) (mCons (mC (.int 2)) (mNil)))) (mC (.int 0))))) (mSet 2 (mLst (mCons (mCall m_u_law_basic (mCons (mVar 0) (mCons (mC (.str "word")) (mNil)))) (mCons (mCall m_u_law_basic (mCons (mVar 0) (mCons (mC (.str "word")) (mNil)))) (mNil))))) (mNext)) cT2)
theorem Fr.set_new {i : Nat} {h0 h : HP} (f : Fr i h0 h) {A : Nat} (hA : h0.length ≤ A) (ob : Ob) : Fr i h0 (h.set A ob) := ⟨by rw [List.length_set]; exact f.len, fun k o' n e => by
  rw [List.getElem?_set_ne (by have := get_lt e; omega)]; exact f.at' k o' n e⟩
theorem cT2_ok {o : Int} {row : List Int} {h0 h : HP} {A : Nat} {sg : Str} {l r : Tm} (a : Dr o row h) (hA : 2 < A) (f0 : Fr 2 h0 h) (hA0 : h0.length ≤ A) (eA : h[A]? = some (.lst [eT l, eT r])) (gl : GT l 2) (gr : GT r 2) : ∃ l' r' h', cT2 [some (.ref 2), some (.str sg), some (.ref A)] h = .rt (.tup [.str "compare", .str sg, eT l', eT r']) h' ∧ GT l' 2 ∧ GT r' 2 ∧ Dr o row h' ∧ Fr 2 h0 h' := by
  obtain ⟨b, h1, e1, a1, f1⟩ := odd_ok a
  have eA1 := f1.at' _ _ (by omega) eA
  cases b with
  | false =>
    refine ⟨l, r, h1, ?_, gl, gr, a1, f0.trans f1⟩
    have b0 := @at0 (eT l) [eT r]
    have b1 := @at1 (eT l) (eT r) []
    unfold cT2
    generalize eT l = zl at *
    generalize eT r = zr at *
    clear a a1 f1 f0 gl gr eA
    walk_at "pm"
  | true =>
    obtain ⟨x, hx, j, h2, e2, g2, ea, a2, f2⟩ := lp_ok [.str "s.1", .str "t"] (m := 2) rfl (by omega) a1
    obtain ⟨z, ez, hz⟩ : ∃ z, x = .str z ∧ z ∈ NM := by
      simp only [List.mem_cons, List.not_mem_nil, or_false] at hx
      rcases hx with rfl | rfl
      · exact ⟨_, rfl, by unfold NM; simp⟩
      · exact ⟨_, rfl, by unfold NM; simp⟩
    subst ez
    obtain ⟨i, h3, e3, ir, a3, f3⟩ := pickD a2 (m := 2) (by omega)
    have eA3 := f3.at' _ _ (by omega) (f2.at' _ _ (by omega) eA1)
    have ff := (((f0.trans f1).trans f2).trans f3)
    have i01 : i = 0 ∨ i = 1 := by omega
    rcases i01 with rfl | rfl
    · have ix : ixN [eT l, eT r].length 0 = some 0 := rfl
      have eA4 : (h3.set A (.lst ([eT l, eT r].set 0 (.tup [.str "name", .str z]))))[A]? = some (.lst [.tup [.str "name", .str z], eT r]) := List.getElem?_set_self (get_lt eA3)
      have k3 : kJ3 [some (.ref 2), some (.str sg), some (.ref A)] (.tup [.str "name", .str z]) (.ref A) (.int 0) h3 = .nx [some (.ref 2), some (.str sg), some (.ref A)] (h3.set A (.lst ([eT l, eT r].set 0 (.tup [.str "name", .str z])))) := kJ3_l eA3 ix
      refine ⟨.nm z, r, h3.set A (.lst ([eT l, eT r].set 0 (.tup [.str "name", .str z]))), ?_, .nm hz, gr, a3.set hA _, ff.set_new hA0 _⟩
      have b0 := @at0 (.tup [.str "name", .str z]) [eT r]
      have b1 := @at1 (.tup [.str "name", .str z]) (eT r) []
      show _ = RS.rt (.tup [.str "compare", .str sg, .tup [.str "name", .str z], eT r]) _
      unfold cT2
      generalize h3.set A (.lst ([eT l, eT r].set 0 (.tup [.str "name", .str z]))) = h4 at *
      clear a a1 a2 a3 f0 f1 f2 f3 ff gl gr eA eA1 eA3 ix hx
      generalize eT l = zl at *
      generalize eT r = zr at *
      walk_at "pm"
    · have ix : ixN [eT l, eT r].length 1 = some 1 := rfl
      have eA4 : (h3.set A (.lst ([eT l, eT r].set 1 (.tup [.str "name", .str z]))))[A]? = some (.lst [eT l, .tup [.str "name", .str z]]) := List.getElem?_set_self (get_lt eA3)
      have k3 : kJ3 [some (.ref 2), some (.str sg), some (.ref A)] (.tup [.str "name", .str z]) (.ref A) (.int 1) h3 = .nx [some (.ref 2), some (.str sg), some (.ref A)] (h3.set A (.lst ([eT l, eT r].set 1 (.tup [.str "name", .str z])))) := kJ3_l eA3 ix
      refine ⟨l, .nm z, h3.set A (.lst ([eT l, eT r].set 1 (.tup [.str "name", .str z]))), ?_, gl, .nm hz, a3.set hA _, ff.set_new hA0 _⟩
      have b0 := @at0 (eT l) [.tup [.str "name", .str z]]
      have b1 := @at1 (eT l) (.tup [.str "name", .str z]) []
      show _ = RS.rt (.tup [.str "compare", .str sg, eT l, .tup [.str "name", .str z]]) _
      unfold cT2
      generalize h3.set A (.lst ([eT l, eT r].set 1 (.tup [.str "name", .str z]))) = h4 at *
      clear a a1 a2 a3 f0 f1 f2 f3 ff gl gr eA eA1 eA3 ix hx
      generalize eT l = zl at *
      generalize eT r = zr at *
      walk_at "pm"
theorem cT1_ok {o : Int} {row : List Int} {h0 h : HP} {A : Nat} {sg : Str} {l r : Tm} (a : Dr o row h) (hA : 2 < A) (f0 : Fr 2 h0 h) (hA0 : h0.length ≤ A) (eA : h[A]? = some (.lst [eT l, eT r])) (gl : GT l 2) (gr : GT r 2) : ∃ l' r' h', cT1 [some (.ref 2), some (.str sg), some (.ref A)] h = .rt (.tup [.str "compare", .str sg, eT l', eT r']) h' ∧ GT l' 2 ∧ GT r' 2 ∧ Dr o row h' ∧ Fr 2 h0 h' := by
  by_cases c : sg = "="
  · have c' := eq_true c
    obtain ⟨j, h1, e1, jr, a1, f1⟩ := pickD a (m := 2) (by omega)
    by_cases q : j = 0
    · subst q
      obtain ⟨t1, h2, e2, n2, a2, f2⟩ := basic_ok a1 false
      obtain ⟨t2, h3, e3, n3, a3, f3⟩ := basic_ok a2 false
      have e2 : m_u_law_basic [.ref 2, .str "word"] h1 = .ok (eT t1) h2 := e2
      have e3 : m_u_law_basic [.ref 2, .str "word"] h2 = .ok (eT t2) h3 := e3
      have ff := (((f0.trans f1).trans f2).trans f3)
      obtain ⟨l', r', h', e4, p1, p2, p3, p4⟩ := cT2_ok (sg := sg) (A := h3.length) (a3.x0 (X0.app h3 [Ob.lst [eT t1, eT t2]])) a3.gt (ff.trans (X0.app h3 [Ob.lst [eT t1, eT t2]]).fr) ff.len last_get (n2.gt 2) (n3.gt 2)
      refine ⟨l', r', h', ?_, p1, p2, p3, p4⟩
      rw [← e4]
      unfold cT1
      clear e4 c a a1 a2 a3 f0 f1 f2 f3 ff gl gr n2 n3 jr p1 p2 p3 p4 eA
      generalize cT2 = B at *
      generalize eT t1 = z1 at *
      generalize eT t2 = z2 at *
      walk_at "pm"
    · obtain ⟨l', r', h', e4, p1, p2, p3, p4⟩ := cT2_ok (sg := sg) a1 hA (f0.trans f1) hA0 (f1.at' _ _ (by omega) eA) gl gr
      refine ⟨l', r', h', ?_, p1, p2, p3, p4⟩
      rw [← e4]
      have q' := eq_false q
      unfold cT1
      clear e4 q c a a1 f0 f1 gl gr jr p1 p2 p3 p4 eA
      generalize cT2 = B at *
      walk_at "pm"
  · have c' := eq_false c
    obtain ⟨l', r', h', e4, p1, p2, p3, p4⟩ := cT2_ok (sg := sg) a hA f0 hA0 eA gl gr
    refine ⟨l', r', h', ?_, p1, p2, p3, p4⟩
    rw [← e4]
    unfold cT1
    clear e4 c a f0 gl gr p1 p2 p3 p4 eA
    generalize cT2 = B at *
    walk_at "pm"
theorem compare_ok {o : Int} {row : List Int} {h : HP} (a : Dr o row h) : ∃ c h', m_u_law_compare [.ref 2] h = .ok (eC c) h' ∧ (∀ d, Gd c d) ∧ Dr o row h' ∧ Fr 2 h h' := by
  obtain ⟨x, hx, j, h1, e1, g1, ea, a1, f1⟩ := lp_ok [.str "=", .str "<", .str "<=", .str "="] (m := 4) rfl (by omega) a
  obtain ⟨sg, es, hs⟩ : ∃ sg, x = .str sg ∧ sg ∈ SG := by
    simp only [List.mem_cons, List.not_mem_nil, or_false] at hx
    rcases hx with rfl | rfl | rfl | rfl <;> exact ⟨_, rfl, by unfold SG; simp⟩
  subst es
  obtain ⟨l, h2, e2, gl, a2, f2⟩ := term_ok 20 2 (by omega) a1
  obtain ⟨r, h3, e3, gr, a3, f3⟩ := term_ok 20 1 (by omega) a2
  have e2 : m_u_law_term 20 [.ref 2, .int 2] h1 = .ok (eT l) h2 := e2
  have e3 : m_u_law_term 20 [.ref 2, .int 1] h2 = .ok (eT r) h3 := e3
  have ff := ((f1.trans f2).trans f3)
  obtain ⟨l', r', h', e4, p1, p2, p3, p4⟩ := cT1_ok (sg := sg) (A := h3.length) (a3.x0 (X0.app h3 [Ob.lst [eT l, eT r]])) a3.gt (ff.trans (X0.app h3 [Ob.lst [eT l, eT r]]).fr) ff.len last_get gl gr.mono
  refine ⟨.cmp sg l' r', h', ?_, fun d => .cmp hs p1 p2, p3, p4⟩
  have top : m_u_law_compare [.ref 2] h = fin (mSeq (mSet 1 (m2 itemH (mLst (mCons (mC (.str "=")) (mCons (mC (.str "<")) (mCons (mC (.str "<=")) (mCons (mC (.str "=")) (mNil)))))) (mCall m_u_law_pick (mCons (mVar 0) (mCons (mC (.int 4)) (mNil))))))
    (mSeq (mSet 2 (mLst (mCons (mCall (m_u_law_term 20) (mCons (mVar 0) (mCons (mC (.int 2)) (mNil)))) (mCons (mCall (m_u_law_term 20) (mCons (mVar 0) (mCons (mC (.int 1)) (mNil)))) (mNil))))) cT1) [some (.ref 2), none, none] h) := rfl
  rw [top]
  show _ = R.ok (D.tup [D.str "compare", D.str sg, eT l', eT r']) h'
  clear top a a1 a2 a3 f1 f2 f3 ff gl gr p1 p2 p3 p4 hx hs
  generalize cT1 = B at *
  generalize eT l = z1 at *
  generalize eT r = z2 at *
  generalize eT l' = z3 at *
  generalize eT r' = z4 at *
  walk_at "pm"
end K13
end
section
set_option Elab.async false
set_option linter.all false
set_option maxRecDepth 100000
set_option maxHeartbeats 4000000
namespace K13
open PySem L2 PM
local macro_rules | `(tactic| walk_at "pm") => `(tactic| simp (config := { decide := true }) only [bind_ok, toS_ok, seq_nx, seq_rt, seq_bk, seq_ct, seq_exc, bind_exc, toS_exc, mSeq_ap, mNext_ap, mSet_ap, kSet_ap, mAsg_ap, kAsg_ap, ofS_some, gN_ap, gTup_ap, gCons_ap, gNil_ap, mDrop_ap, kDrop_ap, mRet_ap, mRetN_ap, mIfS_ap, kIf_t, kIf_f, mBreak_ap, mCont_ap, mBad_ap, mAug_ap, kAug_ap, mVar_ap, mC_ap, m1_ap, k1_ap, m2_ap, k2_ap, k2'_ap, ofO_some, mNil_ap, mCons_ap, kC_ap, kC'_ap, mCall_ap, mB_ap, kB_ap, mMeth_ap, kM_ap, kM'_ap, mTest_ap, kBl_ap, mNot_ap, kNot_ap, mAnd_ap, kAnd_t, kAnd_f, mOr_ap, kOr_t, kOr_f, mIfE_ap, kIfE_t, kIfE_f, mAndV_ap, kAndV_t, kAndV_f, mOrV_ap, kOrV_t, kOrV_f, mNotV_ap, kNotV_ap, mTup_ap, kTup_ap, mLst_ap, kLst_ap, mNoPart_ap, mPart_ap, kInt_ap, mSl_ap, kSl1_ap, kSl2_ap, kSl3_ap, mChain_ap, kCh0_ap, kCh1_ap, kCh2_t, kCh2_f, kCh3_ap, mPutD_ap, kP1_ap, kP2_ap, kP3_ap, runDef_ap, fin_nx, fin_rt, fin_exc, mYes_ap, add_ii, iadd_ii, add_ss, sub_ii, mul_ii, mul_si, mod_ii, fdiv_ii, pow_ii, neg_i, ord_ii, ord_ss, eq_ii, ne_ii, eq_ss, ne_ss, is_non, isn_non, int_i, len_s, len_t, min_ii, sl_s, in_c, nin_c, split_s, str1_ss, find4_s, ty_str, ord_c, iR1_ap, itR1_i, iS_ap, itS_s, iT_ap, itT_t, iE_ap, oD_some, len_r, oLen_l, oLen_r, oKey_s, it_ref, itH_r, itH_t, itH_s, oIH_d, oIH_l, oIH_r, tupF_r, oTupF_l, mTupF_ap, kTupF_ap, seq_t, seq_s, seq_r, oSeq_l, mStar_ap, kSt_ap, kSt1_s, kSt2_ap, lst_d, oLst_s, mTupRev_ap, kRev_t, kRev_s, len_st, min_l, oTy_t, oTy_d, isi_i, isi_s, mIdx_ap, kIx_s, kIxs_ap, kIx1_s, iA_ap, itA_t, itA_s, oItem_d, oItem_l, oItem_r, it_tup, oC_some, it_str, keyD_s, keyD_i, app_r, oApp_l, ext_r, oExt_l, ty_ref, oTy_l, isi_ref, oIsi_l, put_ref, oPut_d, oPutK_s, oBls_s, all_r, oAll_l, tup_r, oTup_l, itE_r, oEnum_l, slT_t, addL_r, oCat_l, lenQ_r, oLenQ_d, isiT_t, isiT_i, isiT_s, isiT_n, mInK_ap, kInK_s, mAtK_ap, kAtK_s, kAtK1_s, mPar_ap, kPar_ap, mPutJ_ap, kJ1_ap, kJ2_ap, mRaise_ap, kRaise_1, get1_r, List.map_cons, List.map_nil, List.length_cons, List.length_nil, List.replicate, List.cons_append, List.nil_append, List.set_cons_zero, List.set_cons_succ, List.getElem?_cons_zero, List.getElem?_cons_succ, Nat.reduceSub, Nat.reduceAdd, Nat.reduceLeDiff, Nat.reduceLT,  cond_true, cond_false, if_true, if_false, ite_true, ite_false, Bool.false_eq_true, reduceIte, Nat.zero_add, Option.bind_some, ne_eq, Int.reduceEq, not_false_eq_true, not_true_eq_false, decide_true, decide_false, Bool.not_true, Bool.not_false, *])

theorem cl_drG {o : Int} {row : List Int} {h0 : HP} {G : HP → Prop} {tg : Tg} {el : ME} {s : SD} {P : D → D → Prop} (h2 : 2 < h0.length) (hG : ∀ h, Fr 2 h0 h → G h) : ∀ {ds acc : List D} {h : HP},
    (∀ d ∈ ds, ∀ h, Dr o row h → ∃ s1 y h2, tg.put d s = some s1 ∧ el s1 h = .ok y h2 ∧ Dr o row h2 ∧ Fr 2 h h2 ∧ P d y) → Fr 2 h0 h → Dr o row h → h[h0.length]? = some (.lst acc) → acc.length + ds.length ≤ 1000 →
    ∃ ys h', cLoop G tg mYes el (putL h0.length) h0.length ds s h = .ok (.ref h0.length) h' ∧ Fr 2 h0 h' ∧ Dr o row h' ∧ h'[h0.length]? = some (.lst (acc ++ ys)) ∧ Paired P ds ys
  | [], acc, h, _, f, a, e, _ => ⟨[], h, by unfold cLoop; rw [if_pos (hG h f)], f, a, by rw [List.append_nil]; exact e, .nil⟩
  | d :: ds, acc, h, st, f, a, e, hl => by
    rw [List.length_cons] at hl
    obtain ⟨s1, y, hh, e1, e2, a2, f2, p⟩ := st d List.mem_cons_self h a
    have g2 := f2.at' _ _ (by omega) e
    obtain ⟨ys, h', e3, f3, a3, g3, ps⟩ := cl_drG h2 hG (ds := ds) (acc := acc ++ [y]) (h := hh.set h0.length (.lst (acc ++ [y]))) (fun d hd => st d (List.mem_cons_of_mem _ hd)) (by
      refine ⟨by rw [List.length_set]; exact Nat.le_trans f.len f2.len, fun k o hk ek => ?_⟩
      rw [List.getElem?_set_ne (by have := get_lt ek; omega)]
      exact f2.at' _ _ hk (f.at' _ _ hk ek)) (a2.set h2 _) (List.getElem?_set_self (get_lt g2)) (by simp; omega)
    refine ⟨y :: ys, h', ?_, f3, a3, by rw [List.append_assoc] at g3; exact g3, .cons p ps⟩
    unfold cLoop
    rw [if_pos (hG h f), e1]
    dsimp only
    rw [mYes_ap]
    dsimp only
    rw [e2]
    dsimp only
    have e4 : putL h0.length y hh = some (hh.set h0.length (.lst (acc ++ [y]))) := by
      unfold putL; rw [g2]; dsimp only; rw [if_pos (by omega)]
    rw [e4]
    exact e3
def bC (d y : D) : Prop := ∃ t, y = eT t ∧ isN t
/-- the terms of an event -/
theorem evc_ok {o : Int} {row : List Int} {h : HP} {r : Nat} {ks : List Bool} (a : Dr o row h) (g : h[r]? = some (.lst (ks.map fun k => .str (kw k)))) (hr : r ≠ 2) (hl : ks.length ≤ 10) {x1 x2 x3 x6 x7 : Option D} :
    ∃ ys h', mLcG (iA (mVar 4)) (.one 5) (mYes) (mCall m_u_law_basic (mCons (mVar 0) (mCons (mVar 5) (mNil)))) [some (.ref 2), x1, x2, x3, some (.ref r), none, x6, x7] h = .ok (.ref h.length) h' ∧ Dr o row h' ∧ Fr 2 h h' ∧ h'[h.length]? = some (.lst ys) ∧ Paired bC (ks.map fun k => .str (kw k)) ys := by
  have ei : iA (mVar 4) [some (.ref 2), x1, x2, x3, some (.ref r), none, x6, x7] h = .ok (ks.map fun k => .str (kw k), fun hh => hh[r]? = some (.lst (ks.map fun k => .str (kw k)))) h := itA_l g
  rw [mLcG_ok ei]
  obtain ⟨ys, h', e, f, a', gg, p⟩ := cl_drG (o := o) (row := row) (h0 := h) (G := fun hh => hh[r]? = some (.lst (ks.map fun k => .str (kw k)))) (tg := .one 5) (el := mCall m_u_law_basic (mCons (mVar 0) (mCons (mVar 5) (mNil)))) (s := wipeD [some (.ref 2), x1, x2, x3, some (.ref r), none, x6, x7] (Tg.one 5).slots) (P := bC) a.gt (fun hh f => f.at' _ _ hr g) (ds := ks.map fun k => .str (kw k)) (acc := []) (h := h ++ [.lst []]) (fun d hd hh ah => by
    obtain ⟨k, _, rfl⟩ := List.mem_map.mp hd
    obtain ⟨t, h2, e, nt, a2, f2⟩ := basic_ok ah k
    refine ⟨[some (.ref 2), x1, x2, x3, some (.ref r), some (.str (kw k)), x6, x7], eT t, h2, rfl, ?_, a2, f2, t, rfl, nt⟩
    clear g ei
    generalize kw k = kk at *
    generalize eT t = z at *
    walk_at "pm") (X0.app h [Ob.lst []]).fr (a.x0 (X0.app h [Ob.lst []])) last_get (by simp; omega)
  exact ⟨ys, h', e, a', f, by simpa using gg, p⟩
noncomputable def evB : MS := (mSeq (mAsg (PM.gTup 2 (PM.gCons (gN 3) (PM.gCons (gN 4) (PM.gNil)))) (m2 itemH (mLst (mCons (mTup (mCons (mC (.str "p")) (mCons (mLst (mCons (mC (.str "number")) (mNil))) (mNil)))) (mCons (mTup (mCons (mC (.str "q")) (mCons (mLst (mCons (mC (.str "word")) (mCons (mC (.str "number")) (mNil)))) (mNil)))) (mNil)))) (mCall m_u_law_pick (mCons (mVar 0) (mCons (mC (.int 2)) (mNil))))))
  (mRet (mTup (mCons (mC (.str "event")) (mCons (mVar 3) (mCons (mB toTupG (mCons (mLcG (iA (mVar 4)) (.one 5) (mYes) (mCall m_u_law_basic (mCons (mVar 0) (mCons (mVar 5) (mNil))))) (mNil))) (mNil)))))))
theorem Gd.ev1 {b : Tm} (nb : isN b) (d : Nat) : Gd (.ev1 b) d := by
  have g := nb.gt 0
  refine ⟨g.ok, g.l, fun s hs => ?_, fun s hs => ?_, g.an⟩
  · have hs : s = .need "number" b "p" := by simpa [sC] using hs
    rw [hs]; exact g.n1
  · have hs : s = .need "number" b "p" := by simpa [sC] using hs
    rw [hs]; show _ ∈ WN; unfold WN; simp
theorem Gd.ev2 {x b : Tm} (nx : isN x) (nb : isN b) (d : Nat) : Gd (.ev2 x b) d := by
  have g := nb.gt 0
  have gx := nx.gt 0
  refine ⟨⟨gx.ok, g.ok⟩, ⟨gx.l, g.l⟩, fun s hs => ?_, fun s hs => ?_, fun y hy => ?_⟩
  · have hs : s = .need "word" x "q" ∨ s = .need "number" b "q" := by simpa [sC] using hs
    rcases hs with hs | hs
    · rw [hs]; exact gx.n1
    · rw [hs]; exact g.n1
  · have hs : s = .need "word" x "q" ∨ s = .need "number" b "q" := by simpa [sC] using hs
    rcases hs with hs | hs <;> (rw [hs]; show _ ∈ WN; unfold WN; simp)
  · have hy : y ∈ nT x ++ nT b := hy
    rw [List.mem_append] at hy
    rcases hy with hy | hy
    · exact gx.an y hy
    · exact g.an y hy
theorem evB_ok {o : Int} {row : List Int} {h : HP} (a : Dr o row h) {x1 x2 : Option D} : ∃ c h', evB [some (.ref 2), x1, x2, none, none, none, none, none] h = .rt (eC c) h' ∧ (∀ d, Gd c d) ∧ Dr o row h' ∧ Fr 2 h h' := by
  have xa : X0 h (h ++ [Ob.lst [.str "number"]]) := X0.app _ _
  have xb : X0 (h ++ [Ob.lst [.str "number"]]) (h ++ [Ob.lst [.str "number"]] ++ [Ob.lst [.str "word", .str "number"]]) := X0.app _ _
  have ab := (a.x0 xa).x0 xb
  have ga : (h ++ [Ob.lst [.str "number"]] ++ [Ob.lst [.str "word", .str "number"]])[h.length]? = some (.lst [.str "number"]) := xb.at' _ _ last_get
  have gb : (h ++ [Ob.lst [.str "number"]] ++ [Ob.lst [.str "word", .str "number"]])[(h ++ [Ob.lst [.str "number"]]).length]? = some (.lst [.str "word", .str "number"]) := last_get
  have fb := (xa.trans xb).fr (i := 2)
  have la := a.gt
  have lb : 2 < (h ++ [Ob.lst [.str "number"]]).length := by simp; omega
  obtain ⟨hb, ehb⟩ : ∃ hb, h ++ [Ob.lst [.str "number"]] ++ [Ob.lst [.str "word", .str "number"]] = hb := ⟨_, rfl⟩
  obtain ⟨rb, erb⟩ : ∃ rb, (h ++ [Ob.lst [.str "number"]]).length = rb := ⟨_, rfl⟩
  rw [ehb] at ab ga gb fb
  rw [erb] at gb lb
  obtain ⟨x, hx, j, h1, e1, g1, ea, a1, f1⟩ := lp_ok [.tup [.str "p", .ref h.length], .tup [.str "q", .ref rb]] (m := 2) rfl (by omega) ab
  -- the pair that is picked
  have run : ∀ w r, x = .tup [.str w, .ref r] → ∀ ys h2, mLcG (iA (mVar 4)) (.one 5) (mYes) (mCall m_u_law_basic (mCons (mVar 0) (mCons (mVar 5) (mNil)))) [some (.ref 2), x1, x2, some (.str w), some (.ref r), none, none, none] h1 = .ok (.ref h1.length) h2 → h2[h1.length]? = some (.lst ys) → evB [some (.ref 2), x1, x2, none, none, none, none, none] h = .rt (.tup [.str "event", .str w, .tup ys]) h2 := fun w r ex ys h2 el gl => by
    subst ex
    unfold evB
    clear a ab ga gb fb a1 f1 hx xa xb
    walk_at "pm"
  simp only [List.mem_cons, List.not_mem_nil, or_false] at hx
  rcases hx with hx | hx
  · obtain ⟨ys, h2, el, a2, f2, gl, pr⟩ := evc_ok (ks := [true]) a1 (f1.at' _ _ (by omega) ga) (by omega) (by simp) (x1 := x1) (x2 := x2) (x3 := some (.str "p")) (x6 := none) (x7 := none)
    cases pr with
    | cons p1 r1 =>
      cases r1
      obtain ⟨t, rfl, nt⟩ := p1
      exact ⟨.ev1 t, h2, run _ _ hx _ _ el gl, .ev1 nt, a2, (fb.trans f1).trans f2⟩
  · obtain ⟨ys, h2, el, a2, f2, gl, pr⟩ := evc_ok (ks := [false, true]) a1 (f1.at' _ _ (by omega) gb) (by omega) (by simp) (x1 := x1) (x2 := x2) (x3 := some (.str "q")) (x6 := none) (x7 := none)
    cases pr with
    | cons p1 r1 =>
      cases r1 with
      | cons p2 r2 =>
        cases r2
        obtain ⟨t, rfl, nt⟩ := p1
        obtain ⟨t2, rfl, nt2⟩ := p2
        exact ⟨.ev2 t t2, h2, run _ _ hx _ _ el gl, .ev2 nt nt2, a2, (fb.trans f1).trans f2⟩
noncomputable def leafB : MS := (mSeq (mIfS (mTest (m2 (eqG false) (mVar 2) (mC (.int 0)))) (mRet (mTup (mCons (mC (.str "true")) (mNil)))) (mNext))
  (mSeq (mIfS (mTest (m2 (eqG false) (m2 modG (mVar 2) (mC (.int 2))) (mC (.int 1)))) (mRet (mCall m_u_law_compare (mCons (mVar 0) (mNil)))) (mNext))
  evB))
theorem Gd.tru (d : Nat) : Gd .tru d := ⟨trivial, trivial, (fun s hs => nomatch (hs : s ∈ ([] : List Stp))), (fun s hs => nomatch (hs : s ∈ ([] : List Stp))), (fun s hs => nomatch (hs : s ∈ ([] : List Str)))⟩
theorem leafB_ok {o : Int} {row : List Int} {h : HP} {j : Int} (a : Dr o row h) {x1 : Option D} : ∃ c h', leafB [some (.ref 2), x1, some (.int j), none, none, none, none, none] h = .rt (eC c) h' ∧ (∀ d, Gd c d) ∧ Dr o row h' ∧ Fr 2 h h' := by
  by_cases c0 : j = 0
  · refine ⟨.tru, h, ?_, .tru, a, Fr.refl _ _⟩
    subst c0
    unfold leafB
    generalize evB = B at *
    show _ = RS.rt (D.tup [D.str "true"]) h
    clear a
    walk_at "pm"
  · have c0' := eq_false c0
    by_cases c1 : j.fmod 2 = 1
    · have c1' := eq_true c1
      obtain ⟨c, h', e, g, a', f⟩ := compare_ok a
      refine ⟨c, h', ?_, g, a', f⟩
      unfold leafB
      generalize evB = B at *
      generalize eC c = z at *
      clear a a' f g c0 c1
      walk_at "pm"
    · have c1' := eq_false c1
      obtain ⟨c, h', e, g, a', f⟩ := evB_ok a (x1 := x1) (x2 := some (.int j))
      refine ⟨c, h', ?_, g, a', f⟩
      rw [← e]
      unfold leafB
      generalize evB = B at *
      clear a a' f g c0 c1 e
      walk_at "pm"
end K13
end
section
set_option Elab.async false
set_option linter.all false
set_option maxRecDepth 100000
set_option maxHeartbeats 4000000
namespace K13
open PySem L2 PM
local macro_rules | `(tactic| walk_at "pm") => `(tactic| simp (config := { decide := true }) only [bind_ok, toS_ok, seq_nx, seq_rt, seq_bk, seq_ct, seq_exc, bind_exc, toS_exc, mSeq_ap, mNext_ap, mSet_ap, kSet_ap, mAsg_ap, kAsg_ap, ofS_some, gN_ap, gTup_ap, gCons_ap, gNil_ap, mDrop_ap, kDrop_ap, mRet_ap, mRetN_ap, mIfS_ap, kIf_t, kIf_f, mBreak_ap, mCont_ap, mBad_ap, mAug_ap, kAug_ap, mVar_ap, mC_ap, m1_ap, k1_ap, m2_ap, k2_ap, k2'_ap, ofO_some, mNil_ap, mCons_ap, kC_ap, kC'_ap, mCall_ap, mB_ap, kB_ap, mMeth_ap, kM_ap, kM'_ap, mTest_ap, kBl_ap, mNot_ap, kNot_ap, mAnd_ap, kAnd_t, kAnd_f, mOr_ap, kOr_t, kOr_f, mIfE_ap, kIfE_t, kIfE_f, mAndV_ap, kAndV_t, kAndV_f, mOrV_ap, kOrV_t, kOrV_f, mNotV_ap, kNotV_ap, mTup_ap, kTup_ap, mLst_ap, kLst_ap, mNoPart_ap, mPart_ap, kInt_ap, mSl_ap, kSl1_ap, kSl2_ap, kSl3_ap, mChain_ap, kCh0_ap, kCh1_ap, kCh2_t, kCh2_f, kCh3_ap, mPutD_ap, kP1_ap, kP2_ap, kP3_ap, runDef_ap, fin_nx, fin_rt, fin_exc, mYes_ap, add_ii, iadd_ii, add_ss, sub_ii, mul_ii, mul_si, mod_ii, fdiv_ii, pow_ii, neg_i, ord_ii, ord_ss, eq_ii, ne_ii, eq_ss, ne_ss, is_non, isn_non, int_i, len_s, len_t, min_ii, sl_s, in_c, nin_c, split_s, str1_ss, find4_s, ty_str, ord_c, iR1_ap, itR1_i, iS_ap, itS_s, iT_ap, itT_t, iE_ap, oD_some, len_r, oLen_l, oLen_r, oKey_s, it_ref, itH_r, itH_t, itH_s, oIH_d, oIH_l, oIH_r, tupF_r, oTupF_l, mTupF_ap, kTupF_ap, seq_t, seq_s, seq_r, oSeq_l, mStar_ap, kSt_ap, kSt1_s, kSt2_ap, lst_d, oLst_s, mTupRev_ap, kRev_t, kRev_s, len_st, min_l, oTy_t, oTy_d, isi_i, isi_s, mIdx_ap, kIx_s, kIxs_ap, kIx1_s, iA_ap, itA_t, itA_s, oItem_d, oItem_l, oItem_r, it_tup, oC_some, it_str, keyD_s, keyD_i, app_r, oApp_l, ext_r, oExt_l, ty_ref, oTy_l, isi_ref, oIsi_l, put_ref, oPut_d, oPutK_s, oBls_s, all_r, oAll_l, tup_r, oTup_l, itE_r, oEnum_l, slT_t, addL_r, oCat_l, lenQ_r, oLenQ_d, isiT_t, isiT_i, isiT_s, isiT_n, mInK_ap, kInK_s, mAtK_ap, kAtK_s, kAtK1_s, mPar_ap, kPar_ap, mPutJ_ap, kJ1_ap, kJ2_ap, mRaise_ap, kRaise_1, get1_r, List.map_cons, List.map_nil, List.length_cons, List.length_nil, List.replicate, List.cons_append, List.nil_append, List.set_cons_zero, List.set_cons_succ, List.getElem?_cons_zero, List.getElem?_cons_succ, Nat.reduceSub, Nat.reduceAdd, Nat.reduceLeDiff, Nat.reduceLT,  cond_true, cond_false, if_true, if_false, ite_true, ite_false, Bool.false_eq_true, reduceIte, Nat.zero_add, Option.bind_some, ne_eq, Int.reduceEq, not_false_eq_true, not_true_eq_false, decide_true, decide_false, Bool.not_true, Bool.not_false, *])

theorem Gd.not {f : Co} {d : Nat} (g : Gd f d) : Gd (.not f) (d + 1) := ⟨⟨d, rfl, g.ok⟩, g.l, g.ns, g.w, g.an⟩
theorem Gd.bef {f : Co} {d : Nat} (g : Gd f d) : Gd (.bef f) (d + 1) := ⟨⟨d, rfl, g.ok⟩, g.l, g.ns, g.w, g.an⟩
theorem app_all {α : Type} {P : α → Prop} {xs ys : List α} (h1 : ∀ x ∈ xs, P x) (h2 : ∀ x ∈ ys, P x) : ∀ x ∈ xs ++ ys, P x := fun x hx => by
  rw [List.mem_append] at hx
  rcases hx with hx | hx
  · exact h1 x hx
  · exact h2 x hx
theorem cons_all {α : Type} {P : α → Prop} {x : α} {ys : List α} (h1 : P x) (h2 : ∀ x ∈ ys, P x) : ∀ y ∈ x :: ys, P y := fun y hy => by
  rw [List.mem_cons] at hy
  rcases hy with rfl | hy
  · exact h1
  · exact h2 y hy
theorem Gd.two {o : Bool} {f f2 : Co} {d : Nat} (g : Gd f d) (g2 : Gd f2 d) : Gd (.two o f f2) (d + 1) := ⟨⟨d, rfl, g.ok, g2.ok⟩, ⟨g.l, g2.l⟩, app_all g.ns g2.ns, app_all g.w g2.w, app_all g.an g2.an⟩
theorem Gd.unt {f f2 : Co} {d : Nat} (g : Gd f d) (g2 : Gd f2 d) : Gd (.unt f f2) (d + 1) := ⟨⟨d, rfl, g.ok, g2.ok⟩, ⟨g.l, g2.l⟩, app_all g.ns g2.ns, app_all g.w g2.w, app_all g.an g2.an⟩
theorem Gd.som {x : Str} {f : Co} {d : Nat} (hx : x ∈ NM) (g : Gd f d) : Gd (.som x f) (d + 1) := ⟨⟨d, rfl, g.ok⟩, ⟨nm_str x hx, g.l⟩, cons_all hx g.ns, cons_all trivial g.w, cons_all hx g.an⟩
theorem Gd.grp {own fn : Str} {val : Option Str} {f : Co} {d : Nat} (ho : own ∈ NM) (hf : fn ∈ WN) (hv : ∀ v, val = some v → v ∈ NM) (g : Gd f d) : Gd (.grp own fn val f) (d + 1) := by
  refine ⟨⟨d, rfl, g.ok⟩, ⟨nm_str own ho, (wn_ok fn hf).2, fun v e => nm_str v (hv v e), g.l⟩, app_all g.ns (cons_all ho ?_), app_all g.w (cons_all hf ?_), g.an⟩
  · cases val with
    | none => exact fun s hs => nomatch (hs : s ∈ ([] : List Stp))
    | some v => exact cons_all (hv v rfl) fun s hs => nomatch (hs : s ∈ ([] : List Stp))
  · cases val with
    | none => exact fun s hs => nomatch (hs : s ∈ ([] : List Stp))
    | some v => exact cons_all hf fun s hs => nomatch (hs : s ∈ ([] : List Stp))
noncomputable def grpB (r_u_law_core : List D → HP → R D) : MS := (mSeq (mIfS (mOr (mTest (m2 (eqG true) (m2 itemH (mVar 6) (mC (.int 0))) (mC (.str "name")))) (mTest (m2 (eqG true) (m2 itemH (mVar 7) (mC (.int 0))) (mC (.str "name"))))) (mRet (mTup (mCons (mC (.str "group")) (mCons (mC (.str "z")) (mCons (mC (.str "count")) (mCons (mC .non) (mCons (mTup (mNil)) (mCons (mCall r_u_law_core (mCons (mVar 0) (mCons (m2 subG (mVar 1) (mC (.int 1))) (mNil)))) (mNil))))))))) (mNext))
  (mRet (mTup (mCons (mC (.str "group")) (mCons (m2 itemH (mVar 6) (mC (.int 1))) (mCons (m2 itemH (mLst (mCons (mC (.str "sum")) (mCons (mC (.str "least")) (mCons (mC (.str "most")) (mNil))))) (mCall m_u_law_pick (mCons (mVar 0) (mCons (mC (.int 3)) (mNil))))) (mCons (m2 itemH (mVar 7) (mC (.int 1))) (mCons (mTup (mNil)) (mCons (mCall r_u_law_core (mCons (mVar 0) (mCons (m2 subG (mVar 1) (mC (.int 1))) (mNil)))) (mNil))))))))))
noncomputable def recB (r_u_law_core : List D → HP → R D) : MS := (mSeq (mIfS (mTest (m2 ltG (mVar 2) (mC (.int 4)))) (mRet (mTup (mCons (m2 itemH (mLst (mCons (mC (.str "and")) (mCons (mC (.str "or")) (mNil)))) (m2 subG (mVar 2) (mC (.int 2)))) (mCons (mCall r_u_law_core (mCons (mVar 0) (mCons (m2 subG (mVar 1) (mC (.int 1))) (mNil)))) (mCons (mCall r_u_law_core (mCons (mVar 0) (mCons (m2 subG (mVar 1) (mC (.int 1))) (mNil)))) (mNil)))))) (mNext))
  (mSeq (mIfS (mTest (m2 (eqG false) (mVar 2) (mC (.int 4)))) (mRet (mTup (mCons (mC (.str "not")) (mCons (mCall r_u_law_core (mCons (mVar 0) (mCons (m2 subG (mVar 1) (mC (.int 1))) (mNil)))) (mNil))))) (mNext))
  (mSeq (mIfS (mTest (m2 (eqG false) (mVar 2) (mC (.int 5)))) (mRet (mTup (mCons (mC (.str "some")) (mCons (m2 itemH (mLst (mCons (mC (.str "y.4")) (mCons (mC (.str "v.7")) (mNil)))) (mCall m_u_law_pick (mCons (mVar 0) (mCons (mC (.int 2)) (mNil))))) (mCons (mCall r_u_law_core (mCons (mVar 0) (mCons (m2 subG (mVar 1) (mC (.int 1))) (mNil)))) (mNil)))))) (mNext))
  (mSeq (mIfS (mTest (m2 (eqG false) (mVar 2) (mC (.int 6)))) (mRet (mTup (mCons (mC (.str "before")) (mCons (mC (.int 0)) (mCons (mC (.int 5)) (mCons (mCall r_u_law_core (mCons (mVar 0) (mCons (m2 subG (mVar 1) (mC (.int 1))) (mNil)))) (mNil))))))) (mNext))
  (mSeq (mIfS (mTest (m2 (eqG false) (mVar 2) (mC (.int 7)))) (mRet (mTup (mCons (mC (.str "until")) (mCons (mC (.int 0)) (mCons (mC (.int 5)) (mCons (mCall r_u_law_core (mCons (mVar 0) (mCons (m2 subG (mVar 1) (mC (.int 1))) (mNil)))) (mCons (mCall r_u_law_core (mCons (mVar 0) (mCons (m2 subG (mVar 1) (mC (.int 1))) (mNil)))) (mNil)))))))) (mNext))
  (mSeq (mSet 6 (mCall m_u_law_basic (mCons (mVar 0) (mCons (mC (.str "number")) (mNil)))))
  (mSeq (mSet 7 (mCall m_u_law_basic (mCons (mVar 0) (mCons (mC (.str "number")) (mNil)))))
  (grpB r_u_law_core))))))))
def RcOk (o : Int) (row : List Int) (d : Nat) (r : List D → HP → R D) : Prop := ∀ h, Dr o row h → ∃ c h', r [.ref 2, .int d] h = .ok (eC c) h' ∧ Gd c d ∧ Dr o row h' ∧ Fr 2 h h'
theorem isN_or {t : Tm} (h : isN t) : (∃ x ∈ NM, t = .nm x) ∨ ∃ w z, eT t = .tup [.str w, z] ∧ (w = "name") = False := by
  rcases h with ⟨x, hx, rfl⟩ | rfl | rfl
  · exact .inl ⟨x, hx, rfl⟩
  · exact .inr ⟨_, _, rfl, by simp; decide⟩
  · exact .inr ⟨_, _, rfl, by simp; decide⟩
theorem grpB_ok {o : Int} {row : List Int} {h : HP} {d : Nat} {r : List D → HP → R D} (ih : RcOk o row d r) (a : Dr o row h) {t1 t2 : Tm} (n1 : isN t1) (n2 : isN t2) {x2 x3 x4 x5 : Option D} :
    ∃ c h', grpB r [some (.ref 2), some (.int ((d + 1 : Nat) : Int)), x2, x3, x4, x5, some (eT t1), some (eT t2)] h = .rt (eC c) h' ∧ Gd c (d + 1) ∧ Dr o row h' ∧ Fr 2 h h' := by
  have cd : (((d + 1 : Nat) : Int) - 1) = (d : Int) := by omega
  have zn : ("z" : Str) ∈ NM := by unfold NM; simp
  have cn : ("count" : Str) ∈ WN := by unfold WN; simp
  have no : ∃ c h', (∃ f, r [.ref 2, .int d] h = .ok (eC f) h' ∧ c = .grp "z" "count" none f) ∧ Gd c (d + 1) ∧ Dr o row h' ∧ Fr 2 h h' := by
    obtain ⟨c, h', e, g, a', f⟩ := ih h a
    exact ⟨_, h', ⟨c, e, rfl⟩, .grp zn cn (fun v e => nomatch e) g, a', f⟩
  generalize ((d + 1 : Nat) : Int) = dd at *
  rcases isN_or n1 with ⟨x, hx, rfl⟩ | ⟨w, z, e1, hw⟩
  · rcases isN_or n2 with ⟨y, hy, rfl⟩ | ⟨w, z, e2, hw⟩
    · obtain ⟨f, hf, j, h1, e1, g1, ea, a1, f1⟩ := lp_ok [.str "sum", .str "least", .str "most"] (m := 3) rfl (by omega) a
      obtain ⟨fn, ef, hfn⟩ : ∃ fn, f = .str fn ∧ fn ∈ WN := by
        simp only [List.mem_cons, List.not_mem_nil, or_false] at hf
        rcases hf with rfl | rfl | rfl <;> exact ⟨_, rfl, by unfold WN; simp⟩
      subst ef
      obtain ⟨c, h', e, g, a', f'⟩ := ih h1 a1
      refine ⟨.grp x fn (some y) c, h', ?_, .grp hx hfn (fun v e => by cases e; exact hy) g, a', f1.trans f'⟩
      have b0 := @at0 (.str "name") [.str x]
      have b1 := @at1 (.str "name") (.str x) []
      have b2 := @at0 (.str "name") [.str y]
      have b3 := @at1 (.str "name") (.str y) []
      show grpB r [some (.ref 2), some (.int dd), x2, x3, x4, x5, some (.tup [.str "name", .str x]), some (.tup [.str "name", .str y])] h = .rt (.tup [.str "group", .str x, .str fn, .str y, .tup [], eC c]) h'
      unfold grpB
      generalize eC c = zc at *
      clear a a1 a' f1 f' g ih no hx hy hf hfn zn cn n1 n2
      walk_at "pm"
    · obtain ⟨c, h', ⟨f, e, rfl⟩, g, a', f'⟩ := no
      refine ⟨_, h', ?_, g, a', f'⟩
      have b0 := @at0 (.str "name") [.str x]
      have b2 := @at0 (.str w) [z]
      rw [e2]
      show grpB r [some (.ref 2), some (.int dd), x2, x3, x4, x5, some (.tup [.str "name", .str x]), some (.tup [.str w, z])] h = .rt (.tup [.str "group", .str "z", .str "count", .non, .tup [], eC f]) h'
      unfold grpB
      generalize eC f = zc at *
      clear a a' f' g ih hx zn cn n1 n2 e2
      walk_at "pm"
  · obtain ⟨c, h', ⟨f, e, rfl⟩, g, a', f'⟩ := no
    refine ⟨_, h', ?_, g, a', f'⟩
    have b2 := @at0 (.str w) [z]
    rw [e1]
    generalize eT t2 = zt at *
    show grpB r [some (.ref 2), some (.int dd), x2, x3, x4, x5, some (.tup [.str w, z]), some zt] h = .rt (.tup [.str "group", .str "z", .str "count", .non, .tup [], eC f]) h'
    unfold grpB
    generalize eC f = zc at *
    clear a a' f' g ih zn cn n1 n2 e1
    walk_at "pm"
theorem recB_ok {o : Int} {row : List Int} {h : HP} {d : Nat} {j : Int} {r : List D → HP → R D} (ih : RcOk o row d r) (a : Dr o row h) (hj : 2 ≤ j ∧ j < 9) :
    ∃ c h', recB r [some (.ref 2), some (.int ((d + 1 : Nat) : Int)), some (.int j), none, none, none, none, none] h = .rt (eC c) h' ∧ Gd c (d + 1) ∧ Dr o row h' ∧ Fr 2 h h' := by
  have cd : (((d + 1 : Nat) : Int) - 1) = (d : Int) := by omega
  have gr := fun {h : HP} (a : Dr o row h) {t1 t2 : Tm} (n1 : isN t1) (n2 : isN t2) {x2 x3 x4 x5 : Option D} => grpB_ok (d := d) ih a n1 n2 (x2 := x2) (x3 := x3) (x4 := x4) (x5 := x5)
  generalize ((d + 1 : Nat) : Int) = dd at *
  have jj : j = 2 ∨ j = 3 ∨ j = 4 ∨ j = 5 ∨ j = 6 ∨ j = 7 ∨ j = 8 := by omega
  rcases jj with rfl | rfl | rfl | rfl | rfl | rfl | rfl
  · obtain ⟨c1, h2, e1, g1, a2, f2⟩ := ih _ (a.x0 (X0.app h [Ob.lst [.str "and", .str "or"]]))
    obtain ⟨c2, h3, e2, g2, a3, f3⟩ := ih _ a2
    refine ⟨.two false c1 c2, h3, ?_, .two g1 g2, a3, ((X0.app h [Ob.lst [.str "and", .str "or"]]).fr.trans f2).trans f3⟩
    have s0 : (2 : Int) - 2 = 0 := rfl
    have b0 := @at0 (.str "and") [.str "or"]
    have l0 : (h ++ [Ob.lst [.str "and", .str "or"]])[h.length]? = some (.lst [.str "and", .str "or"]) := last_get
    show _ = RS.rt (D.tup [D.str "and", eC c1, eC c2]) h3
    unfold recB
    generalize eC c1 = z1 at *
    generalize eC c2 = z2 at *
    clear a a2 a3 f2 f3 g1 g2 gr ih
    walk_at "pm"
  · obtain ⟨c1, h2, e1, g1, a2, f2⟩ := ih _ (a.x0 (X0.app h [Ob.lst [.str "and", .str "or"]]))
    obtain ⟨c2, h3, e2, g2, a3, f3⟩ := ih _ a2
    refine ⟨.two true c1 c2, h3, ?_, .two g1 g2, a3, ((X0.app h [Ob.lst [.str "and", .str "or"]]).fr.trans f2).trans f3⟩
    have s0 : (3 : Int) - 2 = 1 := rfl
    have b0 := @at1 (.str "and") (.str "or") []
    have l0 : (h ++ [Ob.lst [.str "and", .str "or"]])[h.length]? = some (.lst [.str "and", .str "or"]) := last_get
    show _ = RS.rt (D.tup [D.str "or", eC c1, eC c2]) h3
    unfold recB
    generalize eC c1 = z1 at *
    generalize eC c2 = z2 at *
    clear a a2 a3 f2 f3 g1 g2 gr ih
    walk_at "pm"
  · obtain ⟨c1, h2, e1, g1, a2, f2⟩ := ih _ a
    refine ⟨.not c1, h2, ?_, .not g1, a2, f2⟩
    show _ = RS.rt (D.tup [D.str "not", eC c1]) h2
    unfold recB
    generalize eC c1 = z1 at *
    clear a a2 f2 g1 gr ih
    walk_at "pm"
  · obtain ⟨x, hx, i, h1, e1, g1, ea, a1, f1⟩ := lp_ok [.str "y.4", .str "v.7"] (m := 2) rfl (by omega) a
    obtain ⟨z, ez, hz⟩ : ∃ z, x = .str z ∧ z ∈ NM := by
      simp only [List.mem_cons, List.not_mem_nil, or_false] at hx
      rcases hx with rfl | rfl
      · exact ⟨_, rfl, by unfold NM; simp⟩
      · exact ⟨_, rfl, by unfold NM; simp⟩
    subst ez
    obtain ⟨c1, h2, e2, g2, a2, f2⟩ := ih _ a1
    refine ⟨.som z c1, h2, ?_, .som hz g2, a2, f1.trans f2⟩
    show _ = RS.rt (D.tup [D.str "some", D.str z, eC c1]) h2
    unfold recB
    generalize eC c1 = z1 at *
    clear a a1 a2 f1 f2 g2 gr ih hx hz
    walk_at "pm"
  · obtain ⟨c1, h2, e1, g1, a2, f2⟩ := ih _ a
    refine ⟨.bef c1, h2, ?_, .bef g1, a2, f2⟩
    show _ = RS.rt (D.tup [D.str "before", D.int 0, D.int 5, eC c1]) h2
    unfold recB
    generalize eC c1 = z1 at *
    clear a a2 f2 g1 gr ih
    walk_at "pm"
  · obtain ⟨c1, h2, e1, g1, a2, f2⟩ := ih _ a
    obtain ⟨c2, h3, e2, g2, a3, f3⟩ := ih _ a2
    refine ⟨.unt c1 c2, h3, ?_, .unt g1 g2, a3, f2.trans f3⟩
    show _ = RS.rt (D.tup [D.str "until", D.int 0, D.int 5, eC c1, eC c2]) h3
    unfold recB
    generalize eC c1 = z1 at *
    generalize eC c2 = z2 at *
    clear a a2 a3 f2 f3 g1 g2 gr ih
    walk_at "pm"
  · obtain ⟨t1, h1, e1, n1, a1, f1⟩ := basic_ok a true
    obtain ⟨t2, h2, e2, n2, a2, f2⟩ := basic_ok a1 true
    have e1 : m_u_law_basic [.ref 2, .str "number"] h = .ok (eT t1) h1 := e1
    have e2 : m_u_law_basic [.ref 2, .str "number"] h1 = .ok (eT t2) h2 := e2
    obtain ⟨c, h3, e3, g3, a3, f3⟩ := gr a2 n1 n2 (x2 := some (.int 8)) (x3 := none) (x4 := none) (x5 := none)
    refine ⟨c, h3, ?_, g3, a3, (f1.trans f2).trans f3⟩
    rw [← e3]
    unfold recB
    generalize grpB r = B at *
    generalize eT t1 = z1 at *
    generalize eT t2 = z2 at *
    clear a a1 a2 a3 f1 f2 f3 g3 gr ih n1 n2 e3
    walk_at "pm"
theorem core_ok {o : Int} {row : List Int} : ∀ (n d : Nat) {h : HP}, d < n → Dr o row h → ∃ c h', m_u_law_core n [.ref 2, .int d] h = .ok (eC c) h' ∧ Gd c d ∧ Dr o row h' ∧ Fr 2 h h'
  | 0, d, h, hn, _ => by omega
  | n + 1, d, h, hn, a => by
    obtain ⟨j, h1, e1, jr, a1, f1⟩ := pickD a (m := 9) (by omega)
    have top : m_u_law_core (n + 1) [.ref 2, .int d] h = fin (mSeq (mSet 2 (mCall m_u_law_pick (mCons (mVar 0) (mCons (mC (.int 9)) (mNil))))) (mSeq (mIfS (mOr (mTest (m2 ltG (mVar 1) (mC (.int 1)))) (mTest (m2 ltG (mVar 2) (mC (.int 2))))) leafB (mNext)) (recB (m_u_law_core n))) [some (.ref 2), some (.int d), none, none, none, none, none, none] h) := rfl
    by_cases c : d = 0 ∨ j < 2
    · obtain ⟨c1, h2, e2, g2, a2, f2⟩ := leafB_ok (j := j) a1 (x1 := some (.int d))
      refine ⟨c1, h2, ?_, g2 d, a2, f1.trans f2⟩
      rw [top]
      by_cases c0 : d = 0
      · have c0' : ((d : Int) < 1) = True := eq_true (by omega)
        generalize leafB = B at *
        generalize recB (m_u_law_core n) = C at *
        generalize (d : Int) = dd at *
        generalize eC c1 = z1 at *
        clear a a1 a2 f1 f2 g2 top c jr
        walk_at "pm"
      · have c0' : ((d : Int) < 1) = False := eq_false (by omega)
        have c1' : (j < 2) = True := eq_true (by omega)
        generalize leafB = B at *
        generalize recB (m_u_law_core n) = C at *
        generalize (d : Int) = dd at *
        generalize eC c1 = z1 at *
        clear a a1 a2 f1 f2 g2 top c jr
        walk_at "pm"
    · obtain ⟨d, rfl⟩ : ∃ e, d = e + 1 := ⟨d - 1, by omega⟩
      have ih : RcOk o row d (m_u_law_core n) := fun h a => core_ok n d (by omega) a
      obtain ⟨c1, h2, e2, g2, a2, f2⟩ := recB_ok (j := j) ih a1 (by omega)
      refine ⟨c1, h2, ?_, g2, a2, f1.trans f2⟩
      rw [top]
      have c0' : (((d + 1 : Nat) : Int) < 1) = False := eq_false (by omega)
      have c1' : (j < 2) = False := eq_false (by omega)
      generalize leafB = B at *
      generalize recB (m_u_law_core n) = C at *
      generalize ((d + 1 : Nat) : Int) = dd at *
      generalize eC c1 = z1 at *
      clear a a1 a2 f1 f2 g2 top c jr ih
      walk_at "pm"
end K13
end
section
set_option Elab.async false
set_option linter.all false
set_option maxRecDepth 100000
set_option maxHeartbeats 4000000
namespace K13
open PySem L2 PM
local macro_rules | `(tactic| walk_at "pm") => `(tactic| simp (config := { decide := true }) only [bind_ok, toS_ok, seq_nx, seq_rt, seq_bk, seq_ct, seq_exc, bind_exc, toS_exc, mSeq_ap, mNext_ap, mSet_ap, kSet_ap, mAsg_ap, kAsg_ap, ofS_some, gN_ap, gTup_ap, gCons_ap, gNil_ap, mDrop_ap, kDrop_ap, mRet_ap, mRetN_ap, mIfS_ap, kIf_t, kIf_f, mBreak_ap, mCont_ap, mBad_ap, mAug_ap, kAug_ap, mVar_ap, mC_ap, m1_ap, k1_ap, m2_ap, k2_ap, k2'_ap, ofO_some, mNil_ap, mCons_ap, kC_ap, kC'_ap, mCall_ap, mB_ap, kB_ap, mMeth_ap, kM_ap, kM'_ap, mTest_ap, kBl_ap, mNot_ap, kNot_ap, mAnd_ap, kAnd_t, kAnd_f, mOr_ap, kOr_t, kOr_f, mIfE_ap, kIfE_t, kIfE_f, mAndV_ap, kAndV_t, kAndV_f, mOrV_ap, kOrV_t, kOrV_f, mNotV_ap, kNotV_ap, mTup_ap, kTup_ap, mLst_ap, kLst_ap, mNoPart_ap, mPart_ap, kInt_ap, mSl_ap, kSl1_ap, kSl2_ap, kSl3_ap, mChain_ap, kCh0_ap, kCh1_ap, kCh2_t, kCh2_f, kCh3_ap, mPutD_ap, kP1_ap, kP2_ap, kP3_ap, runDef_ap, fin_nx, fin_rt, fin_exc, mYes_ap, add_ii, iadd_ii, add_ss, sub_ii, mul_ii, mul_si, mod_ii, fdiv_ii, pow_ii, neg_i, ord_ii, ord_ss, eq_ii, ne_ii, eq_ss, ne_ss, is_non, isn_non, int_i, len_s, len_t, min_ii, sl_s, in_c, nin_c, split_s, str1_ss, find4_s, ty_str, ord_c, iR1_ap, itR1_i, iS_ap, itS_s, iT_ap, itT_t, iE_ap, oD_some, len_r, oLen_l, oLen_r, oKey_s, it_ref, itH_r, itH_t, itH_s, oIH_d, oIH_l, oIH_r, tupF_r, oTupF_l, mTupF_ap, kTupF_ap, seq_t, seq_s, seq_r, oSeq_l, mStar_ap, kSt_ap, kSt1_s, kSt2_ap, lst_d, oLst_s, mTupRev_ap, kRev_t, kRev_s, len_st, min_l, oTy_t, oTy_d, isi_i, isi_s, mIdx_ap, kIx_s, kIxs_ap, kIx1_s, iA_ap, itA_t, itA_s, oItem_d, oItem_l, oItem_r, it_tup, oC_some, it_str, keyD_s, keyD_i, app_r, oApp_l, ext_r, oExt_l, ty_ref, oTy_l, isi_ref, oIsi_l, put_ref, oPut_d, oPutK_s, oBls_s, all_r, oAll_l, tup_r, oTup_l, itE_r, oEnum_l, slT_t, addL_r, oCat_l, lenQ_r, oLenQ_d, isiT_t, isiT_i, isiT_s, isiT_n, mInK_ap, kInK_s, mAtK_ap, kAtK_s, kAtK1_s, mPar_ap, kPar_ap, mPutJ_ap, kJ1_ap, kJ2_ap, mRaise_ap, kRaise_1, get1_r, List.map_cons, List.map_nil, List.length_cons, List.length_nil, List.replicate, List.cons_append, List.nil_append, List.set_cons_zero, List.set_cons_succ, List.getElem?_cons_zero, List.getElem?_cons_succ, Nat.reduceSub, Nat.reduceAdd, Nat.reduceLeDiff, Nat.reduceLT,  cond_true, cond_false, if_true, if_false, ite_true, ite_false, Bool.false_eq_true, reduceIte, Nat.zero_add, Option.bind_some, ne_eq, Int.reduceEq, not_false_eq_true, not_true_eq_false, decide_true, decide_false, Bool.not_true, Bool.not_false, *])

theorem loop_invG {g : MG} {p : MS} {G : HP → Prop} {Inv : SD → HP → Prop} (hG : ∀ s h, Inv s h → G h) : ∀ {ds : List D} {s : SD} {h : HP}, (∀ d ∈ ds, ∀ s h, Inv s h → ∃ s1 s2 h2, g d s = some s1 ∧ p s1 h = .nx s2 h2 ∧ Inv s2 h2) → Inv s h →
    ∃ s2 h2, mLoop G g p ds s h = .nx s2 h2 ∧ Inv s2 h2
  | [], s, h, _, i => ⟨s, h, mLoop_nil (hG _ _ i), i⟩
  | d :: ds, s, h, st, i => by
    obtain ⟨s1, s2, h2, e1, e2, i2⟩ := st d List.mem_cons_self s h i
    obtain ⟨s3, h3, e3, i3⟩ := loop_invG hG (fun d hd => st d (List.mem_cons_of_mem _ hd)) i2
    exact ⟨s3, h3, by rw [mLoop_nx (hG _ _ i) e1 (.inl e2), e3], i3⟩
/-- the draws before a rule -/
structure Pre (row : List Int) (h : HP) : Prop where
  d : ∃ (n : Nat), h[2]? = some (.dic [(.inr "row", .ref 1), (.inr "at", .int n), (.inr "seed", .int row.length)]) ∨ ∃ o : Int, h[2]? = some (.dic [(.inr "row", .ref 1), (.inr "at", .int n), (.inr "seed", .int row.length), (.inr "odd", .int o)])
  r : h[1]? = some (.lst (row.map D.int))
  z : row.length ≤ 1000
theorem put_odd {row : List Int} {h : HP} {o : Int} (p : Pre row h) {x0 x3 : Option D} : ∃ h', mPutD (mVar 2) (mVar 1) (mC (.str "odd")) [x0, some (.ref 2), some (.int o), x3] h = .nx [x0, some (.ref 2), some (.int o), x3] h' ∧ Dr o row h' ∧ Fr 2 h h' := by
  obtain ⟨⟨n, q⟩, r, z⟩ := p
  have k1 : keyD (.str "odd") = some (.inr "odd") := rfl
  rcases q with q | ⟨o', q⟩
  · have e1 : setK [((.inr "row" : Key), D.ref 1), (.inr "at", .int n), (.inr "seed", .int row.length)] (.inr "odd") (.int o) = [(.inr "row", .ref 1), (.inr "at", .int n), (.inr "seed", .int row.length), (.inr "odd", .int o)] := rfl
    refine ⟨h.set 2 (.dic [(.inr "row", .ref 1), (.inr "at", .int n), (.inr "seed", .int row.length), (.inr "odd", .int o)]), ?_, ⟨n, ⟨List.getElem?_set_self (get_lt q), by rw [List.getElem?_set_ne (by omega)]; exact r, z⟩⟩, Fr.set _ _ _⟩
    walk_at "pm"
  · have e1 : setK [((.inr "row" : Key), D.ref 1), (.inr "at", .int n), (.inr "seed", .int row.length), (.inr "odd", .int o')] (.inr "odd") (.int o) = [(.inr "row", .ref 1), (.inr "at", .int n), (.inr "seed", .int row.length), (.inr "odd", .int o)] := rfl
    refine ⟨h.set 2 (.dic [(.inr "row", .ref 1), (.inr "at", .int n), (.inr "seed", .int row.length), (.inr "odd", .int o)]), ?_, ⟨n, ⟨List.getElem?_set_self (get_lt q), by rw [List.getElem?_set_ne (by omega)]; exact r, z⟩⟩, Fr.set _ _ _⟩
    walk_at "pm"
theorem law1 {row : List Int} {h : HP} {o : Int} (p : Pre row h) {x0 x3 : Option D} : ∃ y3 h', L_law_1 [x0, some (.ref 2), some (.int o), x3] h = .nx [x0, some (.ref 2), some (.int o), y3] h' ∧ Pre row h' ∧ Fr 2 h h' := by
  obtain ⟨h1, e1, a1, f1⟩ := put_odd (o := o) p (x0 := x0) (x3 := x3)
  obtain ⟨c, h2, e2, g2, a2, f2⟩ := core_ok 20 4 (by omega) a1
  have e2 : m_u_law_core 20 [.ref 2, .int 4] h1 = .ok (eC c) h2 := e2
  obtain ⟨a, b, h3, h4, e3, e4, x4, ne⟩ := told_due g2 h2
  obtain ⟨n, s⟩ := (a2.x0 x4).ex
  refine ⟨some (eC c), h4, ?_, ⟨⟨n, .inr ⟨o, s.d⟩⟩, s.r, s.z⟩, (f1.trans f2).trans x4.fr⟩
  unfold L_law_1
  rw [mSeq_ap, e1, seq_nx]
  generalize eC c = z at *
  clear e1 a1 a2 f1 f2 g2 x4 s p
  walk_at "pm"
theorem main (ns : List Int) (hn : ns.length ≤ 63) : ∃ h', m_law [.ref 0] [.rdl (ns.map D.int)] = .ok (.bl true) h' := by
  obtain ⟨h1, row, e1, eh, hz⟩ := stream_ok hn
  have p1 : Pre row h1 := by rw [eh]; exact ⟨⟨0, .inl rfl⟩, rfl, by omega⟩
  have l1 : h1.length = 3 := by rw [eh]; rfl
  have p2 : Pre row (h1 ++ [Ob.lst [.int 0, .int 25, .int 6, .int 6]]) := by
    obtain ⟨⟨n, q⟩, r, z⟩ := p1
    refine ⟨⟨n, ?_⟩, (X0.app _ _).at' _ _ r, z⟩
    rcases q with q | ⟨o, q⟩
    · exact .inl ((X0.app _ _).at' _ _ q)
    · exact .inr ⟨o, (X0.app _ _).at' _ _ q⟩
  obtain ⟨s2, h2, e2, i2⟩ := loop_invG (g := gN 2) (p := L_law_1) (G := fun h => h[h1.length]? = some (.lst [.int 0, .int 25, .int 6, .int 6]))
    (Inv := fun s h => (∃ y2 y3, s = [some (.ref 0), some (.ref 2), y2, y3]) ∧ Pre row h ∧ h[h1.length]? = some (.lst [.int 0, .int 25, .int 6, .int 6])) (fun s h i => i.2.2)
    (ds := [.int 0, .int 25, .int 6, .int 6]) (fun d hd s h i => by
      obtain ⟨⟨y2, y3, rfl⟩, pi, gi⟩ := i
      obtain ⟨o, rfl⟩ : ∃ o, d = .int o := by
        simp only [List.mem_cons, List.not_mem_nil, or_false] at hd
        rcases hd with rfl | rfl | rfl | rfl <;> exact ⟨_, rfl⟩
      obtain ⟨z3, h', e, p', f⟩ := law1 (o := o) pi (x0 := some (.ref 0)) (x3 := y3)
      exact ⟨_, _, h', rfl, e, ⟨_, _, rfl⟩, p', f.at' _ _ (by omega) gi⟩) (s := [some (.ref 0), some (.ref 2), none, none]) (h := h1 ++ [Ob.lst [.int 0, .int 25, .int 6, .int 6]]) ⟨⟨none, none, rfl⟩, p2, last_get⟩
  obtain ⟨⟨y2, y3, rfl⟩, _, _⟩ := i2
  refine ⟨h2, ?_⟩
  have mf : mFor (iA (mLst (mCons (mC (.int 0)) (mCons (mC (.int 25)) (mCons (mC (.int 6)) (mCons (mC (.int 6)) (mNil))))))) (gN 2) L_law_1 [some (.ref 0), some (.ref 2), none, none] h1 = .nx [some (.ref 0), some (.ref 2), y2, y3] h2 := by
    refine (mFor_ok ?_).trans e2
    show itA (.ref h1.length) (h1 ++ [.lst [.int 0, .int 25, .int 6, .int 6]]) = _
    unfold itA
    dsimp only
    rw [last_get]
  unfold m_law b_law
  clear e2 p1 p2 l1 eh
  walk_at "pm"
end K13
end
section
set_option Elab.async false
set_option linter.all false
set_option maxRecDepth 100000
set_option maxHeartbeats 4000000
namespace K13
open PySem PySem.Spec PyProof.Rows L2 PM
def topS (i : Nat) : Stmt := PySem.Challenge.pw_sheetwatch_k13_kinds_of_names.main.body.getD i (.Pass ⟨0, 0, 0, 0⟩)

/-! _law_mix -/
abbrev s_u_law_mix : Stmt := topS 25
abbrev N_u_law_mix : List Str := ["cell", "k", "low"]
abbrev P_u_law_mix : List Str := ["cell", "k"]
theorem sc_u_law_mix : FnScope N_u_law_mix P_u_law_mix (defScope s_u_law_mix) := ⟨rfl, rfl, rfl, by decide +kernel, rfl, by decide +kernel, by decide +kernel⟩


/-! _law_stream -/
abbrev s_u_law_stream : Stmt := topS 26
abbrev N_u_law_stream : List Str := ["script", "most", "row", "k", "rest", "j"]
abbrev P_u_law_stream : List Str := ["script", "most"]
theorem sc_u_law_stream : FnScope N_u_law_stream P_u_law_stream (defScope s_u_law_stream) := ⟨rfl, rfl, rfl, by decide +kernel, rfl, by decide +kernel, by decide +kernel⟩


/-! _law_pick -/
abbrev s_u_law_pick : Stmt := topS 27
abbrev N_u_law_pick : List Str := ["draws", "many", "at", "number"]
abbrev P_u_law_pick : List Str := ["draws", "many"]
theorem sc_u_law_pick : FnScope N_u_law_pick P_u_law_pick (defScope s_u_law_pick) := ⟨rfl, rfl, rfl, by decide +kernel, rfl, by decide +kernel, by decide +kernel⟩


/-! _law_odd -/
abbrev s_u_law_odd : Stmt := topS 28
abbrev N_u_law_odd : List Str := ["draws"]
abbrev P_u_law_odd : List Str := ["draws"]
theorem sc_u_law_odd : FnScope N_u_law_odd P_u_law_odd (defScope s_u_law_odd) := ⟨rfl, rfl, rfl, by decide +kernel, rfl, by decide +kernel, by decide +kernel⟩


/-! _law_basic -/
abbrev s_u_law_basic : Stmt := topS 29
abbrev N_u_law_basic : List Str := ["draws", "kind"]
abbrev P_u_law_basic : List Str := ["draws", "kind"]
theorem sc_u_law_basic : FnScope N_u_law_basic P_u_law_basic (defScope s_u_law_basic) := ⟨rfl, rfl, rfl, by decide +kernel, rfl, by decide +kernel, by decide +kernel⟩


/-! _law_term -/
abbrev s_u_law_term : Stmt := topS 30
abbrev N_u_law_term : List Str := ["draws", "depth"]
abbrev P_u_law_term : List Str := ["draws", "depth"]
theorem sc_u_law_term : FnScope N_u_law_term P_u_law_term (defScope s_u_law_term) := ⟨rfl, rfl, rfl, by decide +kernel, rfl, by decide +kernel, by decide +kernel⟩


/-! _law_compare -/
abbrev s_u_law_compare : Stmt := topS 31
abbrev N_u_law_compare : List Str := ["draws", "sign", "pair"]
abbrev P_u_law_compare : List Str := ["draws"]
theorem sc_u_law_compare : FnScope N_u_law_compare P_u_law_compare (defScope s_u_law_compare) := ⟨rfl, rfl, rfl, by decide +kernel, rfl, by decide +kernel, by decide +kernel⟩


/-! _law_core -/
abbrev s_u_law_core : Stmt := topS 32
abbrev N_u_law_core : List Str := ["draws", "depth", "pick", "name", "kinds", "kind", "own", "value"]
abbrev P_u_law_core : List Str := ["draws", "depth"]
theorem sc_u_law_core : FnScope N_u_law_core P_u_law_core (defScope s_u_law_core) := ⟨rfl, rfl, rfl, by decide +kernel, rfl, by decide +kernel, by decide +kernel⟩


/-! _add_steps_of_sides -/
abbrev s_u_add_steps_of_sides : Stmt := topS 17
abbrev N_u_add_steps_of_sides : List Str := ["sign", "left", "right", "steps", "side"]
abbrev P_u_add_steps_of_sides : List Str := ["sign", "left", "right", "steps"]
theorem sc_u_add_steps_of_sides : FnScope N_u_add_steps_of_sides P_u_add_steps_of_sides (defScope s_u_add_steps_of_sides) := ⟨rfl, rfl, rfl, by decide +kernel, rfl, by decide +kernel, by decide +kernel⟩


/-! _add_steps_inside -/
abbrev s_u_add_steps_inside : Stmt := topS 18
abbrev N_u_add_steps_inside : List Str := ["term", "steps", "word", "left", "right"]
abbrev P_u_add_steps_inside : List Str := ["term", "steps"]
theorem sc_u_add_steps_inside : FnScope N_u_add_steps_inside P_u_add_steps_inside (defScope s_u_add_steps_inside) := ⟨rfl, rfl, rfl, by decide +kernel, rfl, by decide +kernel, by decide +kernel⟩


/-! _add_steps_of_compare -/
abbrev s_u_add_steps_of_compare : Stmt := topS 16
abbrev N_u_add_steps_of_compare : List Str := ["core", "steps", "_", "sign", "left", "right"]
abbrev P_u_add_steps_of_compare : List Str := ["core", "steps"]
theorem sc_u_add_steps_of_compare : FnScope N_u_add_steps_of_compare P_u_add_steps_of_compare (defScope s_u_add_steps_of_compare) := ⟨rfl, rfl, rfl, by decide +kernel, rfl, by decide +kernel, by decide +kernel⟩


/-! first_rule_in -/
abbrev s_first_rule_in : Stmt := topS 10
abbrev N_first_rule_in : List Str := ["rule", "word"]
abbrev P_first_rule_in : List Str := ["rule"]
theorem sc_first_rule_in : FnScope N_first_rule_in P_first_rule_in (defScope s_first_rule_in) := ⟨rfl, rfl, rfl, by decide +kernel, rfl, by decide +kernel, by decide +kernel⟩


/-! rules_in -/
abbrev s_rules_in : Stmt := topS 9
abbrev N_rules_in : List Str := ["rule"]
abbrev P_rules_in : List Str := ["rule"]
theorem sc_rules_in : FnScope N_rules_in P_rules_in (defScope s_rules_in) := ⟨rfl, rfl, rfl, by decide +kernel, rfl, by decide +kernel, by decide +kernel⟩


/-! _add_steps -/
abbrev s_u_add_steps : Stmt := topS 15
abbrev N_u_add_steps : List Str := ["core", "events", "steps", "word", "kind", "basic", "_", "x", "function", "y", "part", "measured", "name"]
abbrev P_u_add_steps : List Str := ["core", "events", "steps"]
theorem sc_u_add_steps : FnScope N_u_add_steps P_u_add_steps (defScope s_u_add_steps) := ⟨rfl, rfl, rfl, by decide +kernel, rfl, by decide +kernel, by decide +kernel⟩


/-! _give -/
abbrev s_u_give : Stmt := topS 20
abbrev N_u_give : List Str := ["term", "kind", "kinds"]
abbrev P_u_give : List Str := ["term", "kind", "kinds"]
theorem sc_u_give : FnScope N_u_give P_u_give (defScope s_u_give) := ⟨rfl, rfl, rfl, by decide +kernel, rfl, by decide +kernel, by decide +kernel⟩


/-! _kind -/
abbrev s_u_kind : Stmt := topS 23
abbrev N_u_kind : List Str := ["term", "kinds", "word"]
abbrev P_u_kind : List Str := ["term", "kinds"]
theorem sc_u_kind : FnScope N_u_kind P_u_kind (defScope s_u_kind) := ⟨rfl, rfl, rfl, by decide +kernel, rfl, by decide +kernel, by decide +kernel⟩


/-! _learn -/
abbrev s_u_learn : Stmt := topS 19
abbrev N_u_learn : List Str := ["step", "kinds", "_", "left", "right"]
abbrev P_u_learn : List Str := ["step", "kinds"]
theorem sc_u_learn : FnScope N_u_learn P_u_learn (defScope s_u_learn) := ⟨rfl, rfl, rfl, by decide +kernel, rfl, by decide +kernel, by decide +kernel⟩


/-! _check -/
abbrev s_u_check : Stmt := topS 21
abbrev N_u_check : List Str := ["step", "kinds", "_", "needed", "term", "word", "left", "right"]
abbrev P_u_check : List Str := ["step", "kinds"]
theorem sc_u_check : FnScope N_u_check P_u_check (defScope s_u_check) := ⟨rfl, rfl, rfl, by decide +kernel, rfl, by decide +kernel, by decide +kernel⟩


/-! _check_known -/
abbrev s_u_check_known : Stmt := topS 22
abbrev N_u_check_known : List Str := ["step", "kinds", "term"]
abbrev P_u_check_known : List Str := ["step", "kinds"]
theorem sc_u_check_known : FnScope N_u_check_known P_u_check_known (defScope s_u_check_known) := ⟨rfl, rfl, rfl, by decide +kernel, rfl, by decide +kernel, by decide +kernel⟩


/-! kinds_of -/
abbrev s_kinds_of : Stmt := topS 14
abbrev N_kinds_of : List Str := ["core", "events", "steps", "kinds", "known", "step"]
abbrev P_kinds_of : List Str := ["core", "events"]
theorem sc_kinds_of : FnScope N_kinds_of P_kinds_of (defScope s_kinds_of) := ⟨rfl, rfl, rfl, by decide +kernel, rfl, by decide +kernel, by decide +kernel⟩


/-! _law_told -/
abbrev s_u_law_told : Stmt := topS 40
abbrev N_u_law_told : List Str := ["core", "e"]
abbrev P_u_law_told : List Str := ["core"]
theorem sc_u_law_told : FnScope N_u_law_told P_u_law_told (defScope s_u_law_told) := ⟨rfl, rfl, rfl, by decide +kernel, rfl, by decide +kernel, by decide +kernel⟩


/-! _law_term_steps -/
abbrev s_u_law_term_steps : Stmt := topS 34
abbrev N_u_law_term_steps : List Str := ["term", "found", "side"]
abbrev P_u_law_term_steps : List Str := ["term"]
theorem sc_u_law_term_steps : FnScope N_u_law_term_steps P_u_law_term_steps (defScope s_u_law_term_steps) := ⟨rfl, rfl, rfl, by decide +kernel, rfl, by decide +kernel, by decide +kernel⟩


/-! _law_steps -/
abbrev s_u_law_steps : Stmt := topS 33
abbrev N_u_law_steps : List Str := ["core", "kind", "wanted", "k", "found", "part"]
abbrev P_u_law_steps : List Str := ["core"]
theorem sc_u_law_steps : FnScope N_u_law_steps P_u_law_steps (defScope s_u_law_steps) := ⟨rfl, rfl, rfl, by decide +kernel, rfl, by decide +kernel, by decide +kernel⟩


/-! _law_learn -/
abbrev s_u_law_learn : Stmt := topS 36
abbrev N_u_law_learn : List Str := ["known", "term", "kind"]
abbrev P_u_law_learn : List Str := ["known", "term", "kind"]
theorem sc_u_law_learn : FnScope N_u_law_learn P_u_law_learn (defScope s_u_law_learn) := ⟨rfl, rfl, rfl, by decide +kernel, rfl, by decide +kernel, by decide +kernel⟩


/-! _law_kind -/
abbrev s_u_law_kind : Stmt := topS 35
abbrev N_u_law_kind : List Str := ["known", "term"]
abbrev P_u_law_kind : List Str := ["known", "term"]
theorem sc_u_law_kind : FnScope N_u_law_kind P_u_law_kind (defScope s_u_law_kind) := ⟨rfl, rfl, rfl, by decide +kernel, rfl, by decide +kernel, by decide +kernel⟩


/-! _law_term_names -/
abbrev s_u_law_term_names : Stmt := topS 39
abbrev N_u_law_term_names : List Str := ["term"]
abbrev P_u_law_term_names : List Str := ["term"]
theorem sc_u_law_term_names : FnScope N_u_law_term_names P_u_law_term_names (defScope s_u_law_term_names) := ⟨rfl, rfl, rfl, by decide +kernel, rfl, by decide +kernel, by decide +kernel⟩


/-! _law_all -/
abbrev s_u_law_all : Stmt := topS 38
abbrev N_u_law_all : List Str := ["core", "found", "part"]
abbrev P_u_law_all : List Str := ["core"]
theorem sc_u_law_all : FnScope N_u_law_all P_u_law_all (defScope s_u_law_all) := ⟨rfl, rfl, rfl, by decide +kernel, rfl, by decide +kernel, by decide +kernel⟩


/-! _law_due -/
abbrev s_u_law_due : Stmt := topS 37
abbrev N_u_law_due : List Str := ["core", "steps", "known", "turn", "word", "one", "other", "name", "mine", "theirs"]
abbrev P_u_law_due : List Str := ["core"]
theorem sc_u_law_due : FnScope N_u_law_due P_u_law_due (defScope s_u_law_due) := ⟨rfl, rfl, rfl, by decide +kernel, rfl, by decide +kernel, by decide +kernel⟩


/-! law -/
abbrev s_law : Stmt := topS 41
abbrev N_law : List Str := ["script", "draws", "odd", "core"]
abbrev P_law : List Str := ["script"]
theorem sc_law : FnScope N_law P_law (defScope s_law) := ⟨rfl, rfl, rfl, by decide +kernel, rfl, by decide +kernel, by decide +kernel⟩

def clsBody (s : Stmt) : List Stmt := match s with
  | .ClassDef _ _ _ b _ _ _ _ _ _ _ => b
  | _ => []
abbrev s_init : Stmt := (clsBody (topS 2)).getD 0 (.Pass ⟨0, 0, 0, 0⟩)
abbrev N_init : List Str := ["self", "word", "__class__"]
abbrev P_init : List Str := ["self", "word"]
theorem sc_init : NdefX.NScope N_init P_init ["__class__"] (defScope s_init) := NdefX.nscope_by (by decide +kernel)
def fileT : Str := PySem.Challenge.pw_sheetwatch_k13_kinds_of_names.main.file
def w_init : FiW := some ("__init__", "RuleError.__init__", defArgs s_init, FuncBody.stmts (defBody s_init), defScope s_init, mainGlobals, [("__class__" : Str)], builtinsNs)

/-! what the top has left -/
structure Txt (P : Program) (w : World) (K : PySem.W.Frag) (mg : Str → Option Value) : Prop where
  pf : ((P.main.file : Str) == fileT) = true
  ps : (P.main.scope.names.lookup ("super" : Str)).isSome = false
  iw : fiW K "RuleError" = w_init
  ib : initB K fileT "RuleError" = true
  subs : SubK K mg (subOf subL)
  e_WrongKind : ErrT K "RuleError" ["word"] "WrongKind"
  e_NoKind : ErrT K "RuleError" ["word"] "NoKind"
  a_NoKind : mg "NoKind" = some (.ref (He.ga K "NoKind"))
  a_WatchError : mg "WatchError" = some (.ref (He.ga K "WatchError"))
  a_RuleError : mg "RuleError" = some (.ref (He.ga K "RuleError"))
  a_WrongKind : mg "WrongKind" = some (.ref (He.ga K "WrongKind"))
  d_u_law_mix : ∃ fd, FnP K "_law_mix" s_u_law_mix (He.ga K "_law_mix") fd
  a_u_law_mix : mg "_law_mix" = some (.ref (He.ga K "_law_mix"))
  d_u_law_stream : ∃ fd, FnP K "_law_stream" s_u_law_stream (He.ga K "_law_stream") fd
  a_u_law_stream : mg "_law_stream" = some (.ref (He.ga K "_law_stream"))
  d_u_law_pick : ∃ fd, FnP K "_law_pick" s_u_law_pick (He.ga K "_law_pick") fd
  a_u_law_pick : mg "_law_pick" = some (.ref (He.ga K "_law_pick"))
  d_u_law_odd : ∃ fd, FnP K "_law_odd" s_u_law_odd (He.ga K "_law_odd") fd
  a_u_law_odd : mg "_law_odd" = some (.ref (He.ga K "_law_odd"))
  d_u_law_basic : ∃ fd, FnP K "_law_basic" s_u_law_basic (He.ga K "_law_basic") fd
  a_u_law_basic : mg "_law_basic" = some (.ref (He.ga K "_law_basic"))
  d_u_law_term : ∃ fd, FnP K "_law_term" s_u_law_term (He.ga K "_law_term") fd
  a_u_law_term : mg "_law_term" = some (.ref (He.ga K "_law_term"))
  d_u_law_compare : ∃ fd, FnP K "_law_compare" s_u_law_compare (He.ga K "_law_compare") fd
  a_u_law_compare : mg "_law_compare" = some (.ref (He.ga K "_law_compare"))
  d_u_law_core : ∃ fd, FnP K "_law_core" s_u_law_core (He.ga K "_law_core") fd
  a_u_law_core : mg "_law_core" = some (.ref (He.ga K "_law_core"))
  d_u_add_steps_of_sides : ∃ fd, FnP K "_add_steps_of_sides" s_u_add_steps_of_sides (He.ga K "_add_steps_of_sides") fd
  a_u_add_steps_of_sides : mg "_add_steps_of_sides" = some (.ref (He.ga K "_add_steps_of_sides"))
  d_u_add_steps_inside : ∃ fd, FnP K "_add_steps_inside" s_u_add_steps_inside (He.ga K "_add_steps_inside") fd
  a_u_add_steps_inside : mg "_add_steps_inside" = some (.ref (He.ga K "_add_steps_inside"))
  d_u_add_steps_of_compare : ∃ fd, FnP K "_add_steps_of_compare" s_u_add_steps_of_compare (He.ga K "_add_steps_of_compare") fd
  a_u_add_steps_of_compare : mg "_add_steps_of_compare" = some (.ref (He.ga K "_add_steps_of_compare"))
  d_first_rule_in : ∃ fd, FnP K "first_rule_in" s_first_rule_in (He.ga K "first_rule_in") fd
  a_first_rule_in : mg "first_rule_in" = some (.ref (He.ga K "first_rule_in"))
  d_rules_in : ∃ fd, FnP K "rules_in" s_rules_in (He.ga K "rules_in") fd
  a_rules_in : mg "rules_in" = some (.ref (He.ga K "rules_in"))
  d_u_add_steps : ∃ fd, FnP K "_add_steps" s_u_add_steps (He.ga K "_add_steps") fd
  a_u_add_steps : mg "_add_steps" = some (.ref (He.ga K "_add_steps"))
  d_u_give : ∃ fd, FnP K "_give" s_u_give (He.ga K "_give") fd
  a_u_give : mg "_give" = some (.ref (He.ga K "_give"))
  d_u_kind : ∃ fd, FnP K "_kind" s_u_kind (He.ga K "_kind") fd
  a_u_kind : mg "_kind" = some (.ref (He.ga K "_kind"))
  d_u_learn : ∃ fd, FnP K "_learn" s_u_learn (He.ga K "_learn") fd
  a_u_learn : mg "_learn" = some (.ref (He.ga K "_learn"))
  d_u_check : ∃ fd, FnP K "_check" s_u_check (He.ga K "_check") fd
  a_u_check : mg "_check" = some (.ref (He.ga K "_check"))
  d_u_check_known : ∃ fd, FnP K "_check_known" s_u_check_known (He.ga K "_check_known") fd
  a_u_check_known : mg "_check_known" = some (.ref (He.ga K "_check_known"))
  d_kinds_of : ∃ fd, FnP K "kinds_of" s_kinds_of (He.ga K "kinds_of") fd
  a_kinds_of : mg "kinds_of" = some (.ref (He.ga K "kinds_of"))
  d_u_law_told : ∃ fd, FnP K "_law_told" s_u_law_told (He.ga K "_law_told") fd
  a_u_law_told : mg "_law_told" = some (.ref (He.ga K "_law_told"))
  d_u_law_term_steps : ∃ fd, FnP K "_law_term_steps" s_u_law_term_steps (He.ga K "_law_term_steps") fd
  a_u_law_term_steps : mg "_law_term_steps" = some (.ref (He.ga K "_law_term_steps"))
  d_u_law_steps : ∃ fd, FnP K "_law_steps" s_u_law_steps (He.ga K "_law_steps") fd
  a_u_law_steps : mg "_law_steps" = some (.ref (He.ga K "_law_steps"))
  d_u_law_learn : ∃ fd, FnP K "_law_learn" s_u_law_learn (He.ga K "_law_learn") fd
  a_u_law_learn : mg "_law_learn" = some (.ref (He.ga K "_law_learn"))
  d_u_law_kind : ∃ fd, FnP K "_law_kind" s_u_law_kind (He.ga K "_law_kind") fd
  a_u_law_kind : mg "_law_kind" = some (.ref (He.ga K "_law_kind"))
  d_u_law_term_names : ∃ fd, FnP K "_law_term_names" s_u_law_term_names (He.ga K "_law_term_names") fd
  a_u_law_term_names : mg "_law_term_names" = some (.ref (He.ga K "_law_term_names"))
  d_u_law_all : ∃ fd, FnP K "_law_all" s_u_law_all (He.ga K "_law_all") fd
  a_u_law_all : mg "_law_all" = some (.ref (He.ga K "_law_all"))
  d_u_law_due : ∃ fd, FnP K "_law_due" s_u_law_due (He.ga K "_law_due") fd
  a_u_law_due : mg "_law_due" = some (.ref (He.ga K "_law_due"))
  d_law : ∃ fd, FnP K "law" s_law (He.ga K "law") fd
  a_law : mg "law" = some (.ref (He.ga K "law"))
  g_OPERATORS_WITH_LIMITS : GConst K mg "OPERATORS_WITH_LIMITS" c_OPERATORS_WITH_LIMITS
  g_PREFIXES_WITH_LIMITS : GConst K mg "PREFIXES_WITH_LIMITS" c_PREFIXES_WITH_LIMITS
  g_NUMBER : GConst K mg "NUMBER" c_NUMBER
  g_WORD : GConst K mg "WORD" c_WORD
  g_SIGNS_OF_WORDS : GDict K w mg "SIGNS_OF_WORDS" c_SIGNS_OF_WORDS
  z_range : mg "range" = none
  z_min : mg "min" = none
  z_len : mg "len" = none
  z_int : mg "int" = none
  z_tuple : mg "tuple" = none
  z_zip : mg "zip" = none
  z_isinstance : mg "isinstance" = none
  z_super : mg "super" = none
theorem bo_min : bootBuiltins "min" = some (.builtin "min") := by decide +kernel
theorem bo_len : bootBuiltins "len" = some (.builtin "len") := by decide +kernel
theorem bo_int : bootBuiltins "int" = some (.type "int") := by decide +kernel
theorem bo_tuple : bootBuiltins "tuple" = some (.type "tuple") := by decide +kernel
theorem bo_isinstance : bootBuiltins "isinstance" = some (.builtin "isinstance") := by decide +kernel
section
variable {P : Program} {w : World} {K : PySem.W.Frag} {mg : Str → Option Value} {base : Heap}
theorem Txt.er (T : Txt P w K mg) (f : Str) (hf : f ∈ (["word"] : List Str)) : ∀ c C, okE c = true → mg c = some (.ref C) → ErrI K C ∧ PySem.W.findIn K (.ref C) f = some none := by
  intro c C h m
  have h := of_decide_eq_true h
  simp only [List.mem_cons, List.not_mem_nil, or_false] at h
  rcases h with rfl | rfl
  · have e := m.symm.trans T.a_WrongKind
    cases e
    exact ⟨T.e_WrongKind.is, T.e_WrongKind.no f hf⟩
  · have e := m.symm.trans T.a_NoKind
    cases e
    exact ⟨T.e_NoKind.is, T.e_NoKind.no f hf⟩

theorem Txt.erI (T : Txt P w K mg) : ∀ c C, okE c = true → mg c = some (.ref C) → ErrI K C := fun c C h m => (T.er "word" (by decide) c C h m).1
theorem Txt.ini (T : Txt P w K mg) (base : Heap) : InitP1 P w K mg base "RuleError" "word" := by
  refine init_fn (name := "__init__") (qual := "RuleError.__init__") (params := defArgs s_init) (body := defBody s_init) (scope := defScope s_init) (pl := pure false) T.iw T.ib T.pf T.ps T.z_super sc_init rfl rfl rfl rfl rfl (fun _ _ _ _ _ us hl => match us, hl with | [_, _], _ => rfl) (fun cc c A outer s H E => ?_) (fun cc c A outer s H E => ?_) (fun _ => rfl) (fun _ => rfl) (fun _ => rfl)
  · exact pa_cons (pe_joined1 (pe_fmt (pe_var (i := 1) rfl (Or.inl rfl)))) pa_nil
  · exact pss_one (ps_ost (pe_var (i := 0) rfl (Or.inl rfl)) (pe_var (i := 1) rfl (Or.inl rfl)))
theorem q_u_law_mix (T : Txt P w K mg) (cdv : Value) (A : Around) (outer : List Env) (s : Shared) (H : Hp) (E : XK) (hr : Room 0 (A.deeper (envOfC "_law_mix" (defScope s_u_law_mix) s.heap.objs.size (He.ga K "_law_mix") cdv))) : QSs (cxOf (L2.CX P w) P w K mg base N_u_law_mix "_law_mix" (defScope s_u_law_mix) (He.ga K "_law_mix") cdv A outer s H E) (fun cls d _ H => E cls d H) (defBody s_u_law_mix) b_u_law_mix := by
  have tk := takes_of (X := (cxOf (L2.CX P w) P w K mg base N_u_law_mix "_law_mix" (defScope s_u_law_mix) (He.ga K "_law_mix") cdv A outer s H E)) (E := E) rfl rfl rfl rfl
  have hp := passes_of (X := (cxOf (L2.CX P w) P w K mg base N_u_law_mix "_law_mix" (defScope s_u_law_mix) (He.ga K "_law_mix") cdv A outer s H E)) rfl
  have nd := sc_u_law_mix.nd
  exact (qss_cons (qs_set (i := 2) nd (qe_op op_modG (qe_callTy call_toIntG rfl T.z_int bo_int (qa_cons (qe_op op_addG (qe_op op_addG (qe_op op_mulG (qe_var (i := 0)) qe_int) (qe_op op_mulG (qe_var (i := 1)) qe_int)) qe_int) qa_nil)) qe_int))
      (qss_one (qs_ret (qe_op op_modG (qe_op op_modG (qe_callTy call_toIntG rfl T.z_int bo_int (qa_cons (qe_op op_addG (qe_op op_addG (qe_op op_addG (qe_op op_mulG (qe_var (i := 2)) (qe_var (i := 2))) (qe_op op_mulG (qe_var (i := 0)) qe_int)) (qe_op op_mulG (qe_var (i := 1)) qe_int)) qe_int) qa_nil)) qe_int) qe_int))))
theorem ok_u_law_mix (T : Txt P w K mg) : FnM P w K mg base 1 "_law_mix" P_u_law_mix m_u_law_mix := fnM_mk (N := N_u_law_mix) T.d_u_law_mix T.a_u_law_mix sc_u_law_mix (fun _ _ _ _ _ _ us hl => match us, hl with | [_, _], _ => rfl) (q_u_law_mix T)

theorem q_u_law_stream (T : Txt P w K mg) (cdv : Value) (A : Around) (outer : List Env) (s : Shared) (H : Hp) (E : XK) (hr : Room 1 (A.deeper (envOfC "_law_stream" (defScope s_u_law_stream) s.heap.objs.size (He.ga K "_law_stream") cdv))) : QSs (cxOf (L2.CX P w) P w K mg base N_u_law_stream "_law_stream" (defScope s_u_law_stream) (He.ga K "_law_stream") cdv A outer s H E) (fun cls d _ H => E cls d H) (defBody s_u_law_stream) b_u_law_stream := by
  have tk := takes_of (X := (cxOf (L2.CX P w) P w K mg base N_u_law_stream "_law_stream" (defScope s_u_law_stream) (He.ga K "_law_stream") cdv A outer s H E)) (E := E) rfl rfl rfl rfl
  have hp := passes_of (X := (cxOf (L2.CX P w) P w K mg base N_u_law_stream "_law_stream" (defScope s_u_law_stream) (He.ga K "_law_stream") cdv A outer s H E)) rfl
  have nd := sc_u_law_stream.nd
  exact (qss_cons (qs_set (i := 2) nd (qe_lst qa_nil))
      (qss_cons (qs_for (ms := L_u_law_stream_1) hp rfl (qi_range1 rfl T.z_range (qa_cons (qe_callB (call_minL rfl) rfl T.z_min bo_min (qa_cons (qe_callB call_lenG rfl T.z_len bo_len (qa_cons (qe_var (i := 0)) qa_nil)) (qa_cons qe_int qa_nil))) qa_nil)) (qg_name nd) (qss_cons (qs_set (i := 4) nd (qe_subH (hu_of hr) (qe_var (i := 0)) (qe_var (i := 3))))
      (qss_one (qs_if (qt_cmp op_geG (qe_var (i := 4)) (qe_op op_powG qe_int qe_int)) (qss_one (qs_for (ms := L_u_law_stream_2) hp rfl (qi_range1 rfl T.z_range (qa_cons qe_int qa_nil)) (qg_name nd) (qss_one (qs_if (qt_w (qw_and (qt_cmp op_gtG (qe_var (i := 4)) qe_int) (qw_one (qt_cmp op_ltG (qe_callB call_lenG rfl T.z_len bo_len (qa_cons (qe_var (i := 2)) qa_nil)) (qe_var (i := 1)))))) (qss_cons (qs_drop (qe_bm PySem.F.plainAttrs_list PySem.F.slot_list_append PySem.F.type_list_append mt_appendG (qe_var (i := 2)) (qa_cons (qe_op op_modG (qe_callTy call_toIntG rfl T.z_int bo_int (qa_cons (qe_var (i := 4)) qa_nil)) qe_int) qa_nil)))
      (qss_one (qs_set (i := 4) nd (qe_op op_fdivG (qe_var (i := 4)) qe_int)))) qss_nil)))) (qss_one (qs_for (ms := L_u_law_stream_3) hp rfl (qi_range1 rfl T.z_range (qa_cons qe_int qa_nil)) (qg_name nd) (qss_one (qs_if (qt_cmp op_ltG (qe_callB call_lenG rfl T.z_len bo_len (qa_cons (qe_var (i := 2)) qa_nil)) (qe_var (i := 1))) (qss_one (qs_drop (qe_bm PySem.F.plainAttrs_list PySem.F.slot_list_append PySem.F.type_list_append mt_appendG (qe_var (i := 2)) (qa_cons (qf (ok_u_law_mix T) tk (hr.mono (by omega)) rfl rfl (qa_cons (qe_var (i := 4)) (qa_cons (qe_op op_addG (qe_op op_mulG qe_int (qe_var (i := 5))) (qe_var (i := 3))) qa_nil)) (len_cons (len_cons len_nil))) qa_nil)))) qss_nil))))))))
      (qss_one (qs_ret (qe_disp (qp_cons qe_str (qe_var (i := 2)) (qp_cons qe_str qe_int (qp_cons qe_str (qe_callB call_lenG rfl T.z_len bo_len (qa_cons (qe_var (i := 2)) qa_nil)) qp_nil))))))))
theorem ok_u_law_stream (T : Txt P w K mg) : FnM P w K mg base 2 "_law_stream" P_u_law_stream m_u_law_stream := fnM_mk (N := N_u_law_stream) T.d_u_law_stream T.a_u_law_stream sc_u_law_stream (fun _ _ _ _ _ _ us hl => match us, hl with | [_, _], _ => rfl) (q_u_law_stream T)

theorem q_u_law_pick (T : Txt P w K mg) (cdv : Value) (A : Around) (outer : List Env) (s : Shared) (H : Hp) (E : XK) (hr : Room 1 (A.deeper (envOfC "_law_pick" (defScope s_u_law_pick) s.heap.objs.size (He.ga K "_law_pick") cdv))) : QSs (cxOf (L2.CX P w) P w K mg base N_u_law_pick "_law_pick" (defScope s_u_law_pick) (He.ga K "_law_pick") cdv A outer s H E) (fun cls d _ H => E cls d H) (defBody s_u_law_pick) b_u_law_pick := by
  have tk := takes_of (X := (cxOf (L2.CX P w) P w K mg base N_u_law_pick "_law_pick" (defScope s_u_law_pick) (He.ga K "_law_pick") cdv A outer s H E)) (E := E) rfl rfl rfl rfl
  have hp := passes_of (X := (cxOf (L2.CX P w) P w K mg base N_u_law_pick "_law_pick" (defScope s_u_law_pick) (He.ga K "_law_pick") cdv A outer s H E)) rfl
  have nd := sc_u_law_pick.nd
  exact (qss_cons (qs_set (i := 2) nd (qe_subH (hu_of hr) (qe_var (i := 0)) qe_str))
      (qss_cons (qs_putD (hu_of hr) (qe_op op_addG (qe_var (i := 2)) qe_int) (qe_var (i := 0)) qe_str)
      (qss_cons (qs_set (i := 3) nd (qf (ok_u_law_mix T) tk (hr.mono (by omega)) rfl rfl (qa_cons (qe_subH (hu_of hr) (qe_var (i := 0)) qe_str) (qa_cons (qe_var (i := 2)) qa_nil)) (len_cons (len_cons len_nil))))
      (qss_cons (qs_if (qt_cmp op_ltG (qe_var (i := 2)) (qe_callB call_lenG rfl T.z_len bo_len (qa_cons (qe_subH (hu_of hr) (qe_var (i := 0)) qe_str) qa_nil))) (qss_one (qs_set (i := 3) nd (qe_subH (hu_of hr) (qe_subH (hu_of hr) (qe_var (i := 0)) qe_str) (qe_var (i := 2))))) qss_nil)
      (qss_one (qs_ret (qe_op op_modG (qe_callTy call_toIntG rfl T.z_int bo_int (qa_cons (qe_var (i := 3)) qa_nil)) (qe_var (i := 1)))))))))
theorem ok_u_law_pick (T : Txt P w K mg) : FnM P w K mg base 2 "_law_pick" P_u_law_pick m_u_law_pick := fnM_mk (N := N_u_law_pick) T.d_u_law_pick T.a_u_law_pick sc_u_law_pick (fun _ _ _ _ _ _ us hl => match us, hl with | [_, _], _ => rfl) (q_u_law_pick T)

theorem q_u_law_odd (T : Txt P w K mg) (cdv : Value) (A : Around) (outer : List Env) (s : Shared) (H : Hp) (E : XK) (hr : Room 2 (A.deeper (envOfC "_law_odd" (defScope s_u_law_odd) s.heap.objs.size (He.ga K "_law_odd") cdv))) : QSs (cxOf (L2.CX P w) P w K mg base N_u_law_odd "_law_odd" (defScope s_u_law_odd) (He.ga K "_law_odd") cdv A outer s H E) (fun cls d _ H => E cls d H) (defBody s_u_law_odd) b_u_law_odd := by
  have tk := takes_of (X := (cxOf (L2.CX P w) P w K mg base N_u_law_odd "_law_odd" (defScope s_u_law_odd) (He.ga K "_law_odd") cdv A outer s H E)) (E := E) rfl rfl rfl rfl
  have hp := passes_of (X := (cxOf (L2.CX P w) P w K mg base N_u_law_odd "_law_odd" (defScope s_u_law_odd) (He.ga K "_law_odd") cdv A outer s H E)) rfl
  have nd := sc_u_law_odd.nd
  exact (qss_one (qs_ret (qe_and (qe_cmp op_gtG (qe_subH (hu_of hr) (qe_var (i := 0)) qe_str) qe_int) (qe_one (qe_cmp (op_eqG hr.units) (qf (ok_u_law_pick T) tk (hr.mono (by omega)) rfl rfl (qa_cons (qe_var (i := 0)) (qa_cons (qe_subH (hu_of hr) (qe_var (i := 0)) qe_str) qa_nil)) (len_cons (len_cons len_nil))) qe_int)))))
theorem ok_u_law_odd (T : Txt P w K mg) : FnM P w K mg base 3 "_law_odd" P_u_law_odd m_u_law_odd := fnM_mk (N := N_u_law_odd) T.d_u_law_odd T.a_u_law_odd sc_u_law_odd (fun _ _ _ _ _ _ us hl => match us, hl with | [_], _ => rfl) (q_u_law_odd T)

theorem q_u_law_basic (T : Txt P w K mg) (cdv : Value) (A : Around) (outer : List Env) (s : Shared) (H : Hp) (E : XK) (hr : Room 3 (A.deeper (envOfC "_law_basic" (defScope s_u_law_basic) s.heap.objs.size (He.ga K "_law_basic") cdv))) : QSs (cxOf (L2.CX P w) P w K mg base N_u_law_basic "_law_basic" (defScope s_u_law_basic) (He.ga K "_law_basic") cdv A outer s H E) (fun cls d _ H => E cls d H) (defBody s_u_law_basic) b_u_law_basic := by
  have tk := takes_of (X := (cxOf (L2.CX P w) P w K mg base N_u_law_basic "_law_basic" (defScope s_u_law_basic) (He.ga K "_law_basic") cdv A outer s H E)) (E := E) rfl rfl rfl rfl
  have hp := passes_of (X := (cxOf (L2.CX P w) P w K mg base N_u_law_basic "_law_basic" (defScope s_u_law_basic) (He.ga K "_law_basic") cdv A outer s H E)) rfl
  have nd := sc_u_law_basic.nd
  exact (qss_cons (qs_if (qt_val (qf (ok_u_law_odd T) tk (hr.mono (by omega)) rfl rfl (qa_cons (qe_var (i := 0)) qa_nil) (len_cons len_nil))) (qss_one (qs_set (i := 1) nd (qe_subH (hu_of hr) (qe_lst (qa_cons qe_str (qa_cons qe_str qa_nil))) (qf (ok_u_law_pick T) tk (hr.mono (by omega)) rfl rfl (qa_cons (qe_var (i := 0)) (qa_cons qe_int qa_nil)) (len_cons (len_cons len_nil)))))) qss_nil)
      (qss_cons (qs_if (qt_cmp (op_eqG hr.units) (qe_var (i := 1)) qe_str) (qss_one (qs_ret (qe_subH (hu_of hr) (qe_lst (qa_cons (qe_tup (qa_cons qe_str (qa_cons qe_int qa_nil))) (qa_cons (qe_tup (qa_cons qe_str (qa_cons qe_str qa_nil))) (qa_cons (qe_tup (qa_cons qe_str (qa_cons qe_str qa_nil))) (qa_cons (qe_tup (qa_cons qe_str (qa_cons qe_str qa_nil))) qa_nil))))) (qf (ok_u_law_pick T) tk (hr.mono (by omega)) rfl rfl (qa_cons (qe_var (i := 0)) (qa_cons qe_int qa_nil)) (len_cons (len_cons len_nil)))))) qss_nil)
      (qss_one (qs_ret (qe_subH (hu_of hr) (qe_lst (qa_cons (qe_tup (qa_cons qe_str (qa_cons qe_str qa_nil))) (qa_cons (qe_tup (qa_cons qe_str (qa_cons qe_str qa_nil))) (qa_cons (qe_tup (qa_cons qe_str (qa_cons qe_str qa_nil))) qa_nil)))) (qf (ok_u_law_pick T) tk (hr.mono (by omega)) rfl rfl (qa_cons (qe_var (i := 0)) (qa_cons qe_int qa_nil)) (len_cons (len_cons len_nil))))))))
theorem ok_u_law_basic (T : Txt P w K mg) : FnM P w K mg base 4 "_law_basic" P_u_law_basic m_u_law_basic := fnM_mk (N := N_u_law_basic) T.d_u_law_basic T.a_u_law_basic sc_u_law_basic (fun _ _ _ _ _ _ us hl => match us, hl with | [_, _], _ => rfl) (q_u_law_basic T)

theorem q_u_law_term (T : Txt P w K mg) (n : Nat) (F_u_law_term : FnM P w K mg base (5 + n) "_law_term" P_u_law_term (m_u_law_term n)) (cdv : Value) (A : Around) (outer : List Env) (s : Shared) (H : Hp) (E : XK) (hr : Room (5 + n) (A.deeper (envOfC "_law_term" (defScope s_u_law_term) s.heap.objs.size (He.ga K "_law_term") cdv))) : QSs (cxOf (L2.CX P w) P w K mg base N_u_law_term "_law_term" (defScope s_u_law_term) (He.ga K "_law_term") cdv A outer s H E) (fun cls d _ H => E cls d H) (defBody s_u_law_term) (b_u_law_term (m_u_law_term n)) := by
  have tk := takes_of (X := (cxOf (L2.CX P w) P w K mg base N_u_law_term "_law_term" (defScope s_u_law_term) (He.ga K "_law_term") cdv A outer s H E)) (E := E) rfl rfl rfl rfl
  have hp := passes_of (X := (cxOf (L2.CX P w) P w K mg base N_u_law_term "_law_term" (defScope s_u_law_term) (He.ga K "_law_term") cdv A outer s H E)) rfl
  have nd := sc_u_law_term.nd
  exact (qss_cons (qs_if (qt_w (qw_and (qt_cmp op_gtG (qe_var (i := 1)) qe_int) (qw_one (qt_cmp (op_eqG hr.units) (qf (ok_u_law_pick T) tk (hr.mono (by omega)) rfl rfl (qa_cons (qe_var (i := 0)) (qa_cons qe_int qa_nil)) (len_cons (len_cons len_nil))) qe_int)))) (qss_one (qs_ret (qe_tup (qa_cons (qe_subH (hu_of hr) (qe_lst (qa_cons qe_str (qa_cons qe_str qa_nil))) (qf (ok_u_law_pick T) tk (hr.mono (by omega)) rfl rfl (qa_cons (qe_var (i := 0)) (qa_cons qe_int qa_nil)) (len_cons (len_cons len_nil)))) (qa_cons (qf F_u_law_term tk (hr.mono (by omega)) rfl rfl (qa_cons (qe_var (i := 0)) (qa_cons (qe_op op_subG (qe_var (i := 1)) qe_int) qa_nil)) (len_cons (len_cons len_nil))) (qa_cons (qf (ok_u_law_basic T) tk (hr.mono (by omega)) rfl rfl (qa_cons (qe_var (i := 0)) (qa_cons qe_str qa_nil)) (len_cons (len_cons len_nil))) qa_nil)))))) qss_nil)
      (qss_one (qs_ret (qf (ok_u_law_basic T) tk (hr.mono (by omega)) rfl rfl (qa_cons (qe_var (i := 0)) (qa_cons qe_str qa_nil)) (len_cons (len_cons len_nil))))))

theorem oks_u_law_term (T : Txt P w K mg) : ∀ n : Nat, FnM P w K mg base (5 + n) "_law_term" P_u_law_term (m_u_law_term n)
  | 0 => fnM_mk (k := 4) (N := N_u_law_term) T.d_u_law_term T.a_u_law_term sc_u_law_term (fun _ _ _ _ _ _ us hl => match us, hl with | [_, _], _ => rfl) (fun _ _ _ _ _ _ _ => qss_bad)
  | n + 1 => by
    have ih := oks_u_law_term T n
    exact fnM_mk (k := 5 + n) (N := N_u_law_term) T.d_u_law_term T.a_u_law_term sc_u_law_term (fun _ _ _ _ _ _ us hl => match us, hl with | [_, _], _ => rfl) (q_u_law_term T n ih)
theorem ok_u_law_term (T : Txt P w K mg) (n : Nat) : FnM P w K mg base (5 + n) "_law_term" P_u_law_term (m_u_law_term n) := (oks_u_law_term T n)

theorem q_u_law_compare (T : Txt P w K mg) (cdv : Value) (A : Around) (outer : List Env) (s : Shared) (H : Hp) (E : XK) (hr : Room 25 (A.deeper (envOfC "_law_compare" (defScope s_u_law_compare) s.heap.objs.size (He.ga K "_law_compare") cdv))) : QSs (cxOf (L2.CX P w) P w K mg base N_u_law_compare "_law_compare" (defScope s_u_law_compare) (He.ga K "_law_compare") cdv A outer s H E) (fun cls d _ H => E cls d H) (defBody s_u_law_compare) b_u_law_compare := by
  have tk := takes_of (X := (cxOf (L2.CX P w) P w K mg base N_u_law_compare "_law_compare" (defScope s_u_law_compare) (He.ga K "_law_compare") cdv A outer s H E)) (E := E) rfl rfl rfl rfl
  have hp := passes_of (X := (cxOf (L2.CX P w) P w K mg base N_u_law_compare "_law_compare" (defScope s_u_law_compare) (He.ga K "_law_compare") cdv A outer s H E)) rfl
  have nd := sc_u_law_compare.nd
  exact (qss_cons (qs_set (i := 1) nd (qe_subH (hu_of hr) (qe_lst (qa_cons qe_str (qa_cons qe_str (qa_cons qe_str (qa_cons qe_str qa_nil))))) (qf (ok_u_law_pick T) tk (hr.mono (by omega)) rfl rfl (qa_cons (qe_var (i := 0)) (qa_cons qe_int qa_nil)) (len_cons (len_cons len_nil)))))
      (qss_cons (qs_set (i := 2) nd (qe_lst (qa_cons (qf (ok_u_law_term T 20) tk (hr.mono (by omega)) rfl rfl (qa_cons (qe_var (i := 0)) (qa_cons qe_int qa_nil)) (len_cons (len_cons len_nil))) (qa_cons (qf (ok_u_law_term T 20) tk (hr.mono (by omega)) rfl rfl (qa_cons (qe_var (i := 0)) (qa_cons qe_int qa_nil)) (len_cons (len_cons len_nil))) qa_nil))))
      (qss_cons (qs_if (qt_w (qw_and (qt_cmp (op_eqG hr.units) (qe_var (i := 1)) qe_str) (qw_one (qt_cmp (op_eqG hr.units) (qf (ok_u_law_pick T) tk (hr.mono (by omega)) rfl rfl (qa_cons (qe_var (i := 0)) (qa_cons qe_int qa_nil)) (len_cons (len_cons len_nil))) qe_int)))) (qss_one (qs_set (i := 2) nd (qe_lst (qa_cons (qf (ok_u_law_basic T) tk (hr.mono (by omega)) rfl rfl (qa_cons (qe_var (i := 0)) (qa_cons qe_str qa_nil)) (len_cons (len_cons len_nil))) (qa_cons (qf (ok_u_law_basic T) tk (hr.mono (by omega)) rfl rfl (qa_cons (qe_var (i := 0)) (qa_cons qe_str qa_nil)) (len_cons (len_cons len_nil))) qa_nil))))) qss_nil)
      (qss_cons (qs_if (qt_val (qf (ok_u_law_odd T) tk (hr.mono (by omega)) rfl rfl (qa_cons (qe_var (i := 0)) qa_nil) (len_cons len_nil))) (qss_one (qs_putJ (qe_tup (qa_cons qe_str (qa_cons (qe_subH (hu_of hr) (qe_lst (qa_cons qe_str (qa_cons qe_str qa_nil))) (qf (ok_u_law_pick T) tk (hr.mono (by omega)) rfl rfl (qa_cons (qe_var (i := 0)) (qa_cons qe_int qa_nil)) (len_cons (len_cons len_nil)))) qa_nil))) (qe_var (i := 2)) (qf (ok_u_law_pick T) tk (hr.mono (by omega)) rfl rfl (qa_cons (qe_var (i := 0)) (qa_cons qe_int qa_nil)) (len_cons (len_cons len_nil))))) qss_nil)
      (qss_one (qs_ret (qe_tup (qa_cons qe_str (qa_cons (qe_var (i := 1)) (qa_cons (qe_subH (hu_of hr) (qe_var (i := 2)) qe_int) (qa_cons (qe_subH (hu_of hr) (qe_var (i := 2)) qe_int) qa_nil)))))))))))
theorem ok_u_law_compare (T : Txt P w K mg) : FnM P w K mg base 26 "_law_compare" P_u_law_compare m_u_law_compare := fnM_mk (N := N_u_law_compare) T.d_u_law_compare T.a_u_law_compare sc_u_law_compare (fun _ _ _ _ _ _ us hl => match us, hl with | [_], _ => rfl) (q_u_law_compare T)

theorem q_u_law_core (T : Txt P w K mg) (n : Nat) (F_u_law_core : FnM P w K mg base (27 + n) "_law_core" P_u_law_core (m_u_law_core n)) (cdv : Value) (A : Around) (outer : List Env) (s : Shared) (H : Hp) (E : XK) (hr : Room (27 + n) (A.deeper (envOfC "_law_core" (defScope s_u_law_core) s.heap.objs.size (He.ga K "_law_core") cdv))) : QSs (cxOf (L2.CX P w) P w K mg base N_u_law_core "_law_core" (defScope s_u_law_core) (He.ga K "_law_core") cdv A outer s H E) (fun cls d _ H => E cls d H) (defBody s_u_law_core) (b_u_law_core (m_u_law_core n)) := by
  have tk := takes_of (X := (cxOf (L2.CX P w) P w K mg base N_u_law_core "_law_core" (defScope s_u_law_core) (He.ga K "_law_core") cdv A outer s H E)) (E := E) rfl rfl rfl rfl
  have hp := passes_of (X := (cxOf (L2.CX P w) P w K mg base N_u_law_core "_law_core" (defScope s_u_law_core) (He.ga K "_law_core") cdv A outer s H E)) rfl
  have nd := sc_u_law_core.nd
  exact (qss_cons (qs_set (i := 2) nd (qf (ok_u_law_pick T) tk (hr.mono (by omega)) rfl rfl (qa_cons (qe_var (i := 0)) (qa_cons qe_int qa_nil)) (len_cons (len_cons len_nil))))
      (qss_cons (qs_if (qt_w (qw_or (qt_cmp op_ltG (qe_var (i := 1)) qe_int) (qw_one' (qt_cmp op_ltG (qe_var (i := 2)) qe_int)))) (qss_cons (qs_if (qt_cmp (op_eqG hr.units) (qe_var (i := 2)) qe_int) (qss_one (qs_ret (qe_tup (qa_cons qe_str qa_nil)))) qss_nil)
      (qss_cons (qs_if (qt_cmp (op_eqG hr.units) (qe_op op_modG (qe_var (i := 2)) qe_int) qe_int) (qss_one (qs_ret (qf (ok_u_law_compare T) tk (hr.mono (by omega)) rfl rfl (qa_cons (qe_var (i := 0)) qa_nil) (len_cons len_nil)))) qss_nil)
      (qss_cons (qs_asg (qe_subH (hu_of hr) (qe_lst (qa_cons (qe_tup (qa_cons qe_str (qa_cons (qe_lst (qa_cons qe_str qa_nil)) qa_nil))) (qa_cons (qe_tup (qa_cons qe_str (qa_cons (qe_lst (qa_cons qe_str (qa_cons qe_str qa_nil))) qa_nil))) qa_nil))) (qf (ok_u_law_pick T) tk (hr.mono (by omega)) rfl rfl (qa_cons (qe_var (i := 0)) (qa_cons qe_int qa_nil)) (len_cons (len_cons len_nil)))) (qg_tup rfl (qgs_cons (qg_name nd) (qgs_cons (qg_name nd) qgs_nil))))
      (qss_one (qs_ret (qe_tup (qa_cons qe_str (qa_cons (qe_var (i := 3)) (qa_cons (qe_callTy call_toTupG rfl T.z_tuple bo_tuple (qa_cons (qe_lcG (own := [("kind", 5)]) (.one 5) rfl nd (qi_any (qe_var (i := 4))) (blkOk_by (N := N_u_law_core) (sc := defScope s_u_law_core) (by decide +kernel)) rfl (fun _ _ _ _ _ => (pg_name (i := 5) nd rfl (by first | exact Or.inl rfl | exact Or.inr rfl | exact Or.inr (Or.inl rfl)))) (fun _ _ _ _ _ => qts_nil) (fun _ _ _ _ _ => (qf (ok_u_law_basic T) takes0 (hr.mono (by omega)) rfl rfl (qa_cons (qe_var (i := 0)) (qa_cons (qe_var (i := 5)) qa_nil)) (len_cons (len_cons len_nil))))) qa_nil)) qa_nil))))))))) qss_nil)
      (qss_cons (qs_if (qt_cmp op_ltG (qe_var (i := 2)) qe_int) (qss_one (qs_ret (qe_tup (qa_cons (qe_subH (hu_of hr) (qe_lst (qa_cons qe_str (qa_cons qe_str qa_nil))) (qe_op op_subG (qe_var (i := 2)) qe_int)) (qa_cons (qf F_u_law_core tk (hr.mono (by omega)) rfl rfl (qa_cons (qe_var (i := 0)) (qa_cons (qe_op op_subG (qe_var (i := 1)) qe_int) qa_nil)) (len_cons (len_cons len_nil))) (qa_cons (qf F_u_law_core tk (hr.mono (by omega)) rfl rfl (qa_cons (qe_var (i := 0)) (qa_cons (qe_op op_subG (qe_var (i := 1)) qe_int) qa_nil)) (len_cons (len_cons len_nil))) qa_nil)))))) qss_nil)
      (qss_cons (qs_if (qt_cmp (op_eqG hr.units) (qe_var (i := 2)) qe_int) (qss_one (qs_ret (qe_tup (qa_cons qe_str (qa_cons (qf F_u_law_core tk (hr.mono (by omega)) rfl rfl (qa_cons (qe_var (i := 0)) (qa_cons (qe_op op_subG (qe_var (i := 1)) qe_int) qa_nil)) (len_cons (len_cons len_nil))) qa_nil))))) qss_nil)
      (qss_cons (qs_if (qt_cmp (op_eqG hr.units) (qe_var (i := 2)) qe_int) (qss_one (qs_ret (qe_tup (qa_cons qe_str (qa_cons (qe_subH (hu_of hr) (qe_lst (qa_cons qe_str (qa_cons qe_str qa_nil))) (qf (ok_u_law_pick T) tk (hr.mono (by omega)) rfl rfl (qa_cons (qe_var (i := 0)) (qa_cons qe_int qa_nil)) (len_cons (len_cons len_nil)))) (qa_cons (qf F_u_law_core tk (hr.mono (by omega)) rfl rfl (qa_cons (qe_var (i := 0)) (qa_cons (qe_op op_subG (qe_var (i := 1)) qe_int) qa_nil)) (len_cons (len_cons len_nil))) qa_nil)))))) qss_nil)
      (qss_cons (qs_if (qt_cmp (op_eqG hr.units) (qe_var (i := 2)) qe_int) (qss_one (qs_ret (qe_tup (qa_cons qe_str (qa_cons qe_int (qa_cons qe_int (qa_cons (qf F_u_law_core tk (hr.mono (by omega)) rfl rfl (qa_cons (qe_var (i := 0)) (qa_cons (qe_op op_subG (qe_var (i := 1)) qe_int) qa_nil)) (len_cons (len_cons len_nil))) qa_nil))))))) qss_nil)
      (qss_cons (qs_if (qt_cmp (op_eqG hr.units) (qe_var (i := 2)) qe_int) (qss_one (qs_ret (qe_tup (qa_cons qe_str (qa_cons qe_int (qa_cons qe_int (qa_cons (qf F_u_law_core tk (hr.mono (by omega)) rfl rfl (qa_cons (qe_var (i := 0)) (qa_cons (qe_op op_subG (qe_var (i := 1)) qe_int) qa_nil)) (len_cons (len_cons len_nil))) (qa_cons (qf F_u_law_core tk (hr.mono (by omega)) rfl rfl (qa_cons (qe_var (i := 0)) (qa_cons (qe_op op_subG (qe_var (i := 1)) qe_int) qa_nil)) (len_cons (len_cons len_nil))) qa_nil)))))))) qss_nil)
      (qss_cons (qs_set (i := 6) nd (qf (ok_u_law_basic T) tk (hr.mono (by omega)) rfl rfl (qa_cons (qe_var (i := 0)) (qa_cons qe_str qa_nil)) (len_cons (len_cons len_nil))))
      (qss_cons (qs_set (i := 7) nd (qf (ok_u_law_basic T) tk (hr.mono (by omega)) rfl rfl (qa_cons (qe_var (i := 0)) (qa_cons qe_str qa_nil)) (len_cons (len_cons len_nil))))
      (qss_cons (qs_if (qt_w (qw_or (qt_cmp (op_neG hr.units) (qe_subH (hu_of hr) (qe_var (i := 6)) qe_int) qe_str) (qw_one' (qt_cmp (op_neG hr.units) (qe_subH (hu_of hr) (qe_var (i := 7)) qe_int) qe_str)))) (qss_one (qs_ret (qe_tup (qa_cons qe_str (qa_cons qe_str (qa_cons qe_str (qa_cons qe_non (qa_cons (qe_tup qa_nil) (qa_cons (qf F_u_law_core tk (hr.mono (by omega)) rfl rfl (qa_cons (qe_var (i := 0)) (qa_cons (qe_op op_subG (qe_var (i := 1)) qe_int) qa_nil)) (len_cons (len_cons len_nil))) qa_nil))))))))) qss_nil)
      (qss_one (qs_ret (qe_tup (qa_cons qe_str (qa_cons (qe_subH (hu_of hr) (qe_var (i := 6)) qe_int) (qa_cons (qe_subH (hu_of hr) (qe_lst (qa_cons qe_str (qa_cons qe_str (qa_cons qe_str qa_nil)))) (qf (ok_u_law_pick T) tk (hr.mono (by omega)) rfl rfl (qa_cons (qe_var (i := 0)) (qa_cons qe_int qa_nil)) (len_cons (len_cons len_nil)))) (qa_cons (qe_subH (hu_of hr) (qe_var (i := 7)) qe_int) (qa_cons (qe_tup qa_nil) (qa_cons (qf F_u_law_core tk (hr.mono (by omega)) rfl rfl (qa_cons (qe_var (i := 0)) (qa_cons (qe_op op_subG (qe_var (i := 1)) qe_int) qa_nil)) (len_cons (len_cons len_nil))) qa_nil)))))))))))))))))))

theorem oks_u_law_core (T : Txt P w K mg) : ∀ n : Nat, FnM P w K mg base (27 + n) "_law_core" P_u_law_core (m_u_law_core n)
  | 0 => fnM_mk (k := 26) (N := N_u_law_core) T.d_u_law_core T.a_u_law_core sc_u_law_core (fun _ _ _ _ _ _ us hl => match us, hl with | [_, _], _ => rfl) (fun _ _ _ _ _ _ _ => qss_bad)
  | n + 1 => by
    have ih := oks_u_law_core T n
    exact fnM_mk (k := 27 + n) (N := N_u_law_core) T.d_u_law_core T.a_u_law_core sc_u_law_core (fun _ _ _ _ _ _ us hl => match us, hl with | [_, _], _ => rfl) (q_u_law_core T n ih)
theorem ok_u_law_core (T : Txt P w K mg) (n : Nat) : FnM P w K mg base (27 + n) "_law_core" P_u_law_core (m_u_law_core n) := (oks_u_law_core T n)

theorem q_u_add_steps_of_sides (T : Txt P w K mg) (n : Nat) (F_u_add_steps_of_sides : FnM P w K mg base (1 + n) "_add_steps_of_sides" P_u_add_steps_of_sides (m_u_add_steps_of_sides n)) (F_u_add_steps_inside : FnM P w K mg base (1 + n) "_add_steps_inside" P_u_add_steps_inside (m_u_add_steps_inside n)) (cdv : Value) (A : Around) (outer : List Env) (s : Shared) (H : Hp) (E : XK) (hr : Room (1 + n) (A.deeper (envOfC "_add_steps_of_sides" (defScope s_u_add_steps_of_sides) s.heap.objs.size (He.ga K "_add_steps_of_sides") cdv))) : QSs (cxOf (L2.CX P w) P w K mg base N_u_add_steps_of_sides "_add_steps_of_sides" (defScope s_u_add_steps_of_sides) (He.ga K "_add_steps_of_sides") cdv A outer s H E) (fun cls d _ H => E cls d H) (defBody s_u_add_steps_of_sides) (b_u_add_steps_of_sides (m_u_add_steps_of_sides n) (m_u_add_steps_inside n)) := by
  have tk := takes_of (X := (cxOf (L2.CX P w) P w K mg base N_u_add_steps_of_sides "_add_steps_of_sides" (defScope s_u_add_steps_of_sides) (He.ga K "_add_steps_of_sides") cdv A outer s H E)) (E := E) rfl rfl rfl rfl
  have hp := passes_of (X := (cxOf (L2.CX P w) P w K mg base N_u_add_steps_of_sides "_add_steps_of_sides" (defScope s_u_add_steps_of_sides) (He.ga K "_add_steps_of_sides") cdv A outer s H E)) rfl
  have nd := sc_u_add_steps_of_sides.nd
  exact (qss_one (qs_for (ms := L_u_add_steps_of_sides_1 (m_u_add_steps_of_sides n) (m_u_add_steps_inside n)) hp rfl (qi_any (qe_tup (qa_cons (qe_var (i := 1)) (qa_cons (qe_var (i := 2)) qa_nil)))) (qg_name nd) (qss_cons (qs_drop (qf F_u_add_steps_inside tk (hr.mono (by omega)) rfl rfl (qa_cons (qe_var (i := 4)) (qa_cons (qe_var (i := 3)) qa_nil)) (len_cons (len_cons len_nil))))
      (qss_one (qs_drop (qe_bm PySem.F.plainAttrs_list PySem.F.slot_list_append PySem.F.type_list_append mt_appendG (qe_var (i := 3)) (qa_cons (qe_tup (qa_cons qe_str (qa_cons (qe_gc rfl T.g_NUMBER) (qa_cons (qe_var (i := 4)) (qa_cons (qe_var (i := 0)) qa_nil))))) qa_nil)))))))

theorem q_u_add_steps_inside (T : Txt P w K mg) (n : Nat) (F_u_add_steps_of_sides : FnM P w K mg base (1 + n) "_add_steps_of_sides" P_u_add_steps_of_sides (m_u_add_steps_of_sides n)) (F_u_add_steps_inside : FnM P w K mg base (1 + n) "_add_steps_inside" P_u_add_steps_inside (m_u_add_steps_inside n)) (cdv : Value) (A : Around) (outer : List Env) (s : Shared) (H : Hp) (E : XK) (hr : Room (1 + n) (A.deeper (envOfC "_add_steps_inside" (defScope s_u_add_steps_inside) s.heap.objs.size (He.ga K "_add_steps_inside") cdv))) : QSs (cxOf (L2.CX P w) P w K mg base N_u_add_steps_inside "_add_steps_inside" (defScope s_u_add_steps_inside) (He.ga K "_add_steps_inside") cdv A outer s H E) (fun cls d _ H => E cls d H) (defBody s_u_add_steps_inside) (b_u_add_steps_inside (m_u_add_steps_of_sides n) (m_u_add_steps_inside n)) := by
  have tk := takes_of (X := (cxOf (L2.CX P w) P w K mg base N_u_add_steps_inside "_add_steps_inside" (defScope s_u_add_steps_inside) (He.ga K "_add_steps_inside") cdv A outer s H E)) (E := E) rfl rfl rfl rfl
  have hp := passes_of (X := (cxOf (L2.CX P w) P w K mg base N_u_add_steps_inside "_add_steps_inside" (defScope s_u_add_steps_inside) (He.ga K "_add_steps_inside") cdv A outer s H E)) rfl
  have nd := sc_u_add_steps_inside.nd
  exact (qss_one (qs_if (qt_inK T.g_SIGNS_OF_WORDS rfl (qe_subH (hu_of hr) (qe_var (i := 0)) qe_int)) (qss_cons (qs_asg (qe_var (i := 0)) (qg_tup rfl (qgs_cons (qg_name nd) (qgs_cons (qg_name nd) (qgs_cons (qg_name nd) qgs_nil)))))
      (qss_one (qs_drop (qf F_u_add_steps_of_sides tk (hr.mono (by omega)) rfl rfl (qa_cons (qe_atK T.g_SIGNS_OF_WORDS rfl (qe_var (i := 2))) (qa_cons (qe_var (i := 3)) (qa_cons (qe_var (i := 4)) (qa_cons (qe_var (i := 1)) qa_nil)))) (len_cons (len_cons (len_cons (len_cons len_nil)))))))) qss_nil))

theorem oks_u_add_steps_of_sides (T : Txt P w K mg) : ∀ n : Nat, FnM P w K mg base (1 + n) "_add_steps_of_sides" P_u_add_steps_of_sides (m_u_add_steps_of_sides n) ∧ FnM P w K mg base (1 + n) "_add_steps_inside" P_u_add_steps_inside (m_u_add_steps_inside n)
  | 0 => ⟨fnM_mk (k := 0) (N := N_u_add_steps_of_sides) T.d_u_add_steps_of_sides T.a_u_add_steps_of_sides sc_u_add_steps_of_sides (fun _ _ _ _ _ _ us hl => match us, hl with | [_, _, _, _], _ => rfl) (fun _ _ _ _ _ _ _ => qss_bad), fnM_mk (k := 0) (N := N_u_add_steps_inside) T.d_u_add_steps_inside T.a_u_add_steps_inside sc_u_add_steps_inside (fun _ _ _ _ _ _ us hl => match us, hl with | [_, _], _ => rfl) (fun _ _ _ _ _ _ _ => qss_bad)⟩
  | n + 1 => by
    have ih := oks_u_add_steps_of_sides T n
    exact ⟨fnM_mk (k := 1 + n) (N := N_u_add_steps_of_sides) T.d_u_add_steps_of_sides T.a_u_add_steps_of_sides sc_u_add_steps_of_sides (fun _ _ _ _ _ _ us hl => match us, hl with | [_, _, _, _], _ => rfl) (q_u_add_steps_of_sides T n ih.1 ih.2), fnM_mk (k := 1 + n) (N := N_u_add_steps_inside) T.d_u_add_steps_inside T.a_u_add_steps_inside sc_u_add_steps_inside (fun _ _ _ _ _ _ us hl => match us, hl with | [_, _], _ => rfl) (q_u_add_steps_inside T n ih.1 ih.2)⟩
theorem ok_u_add_steps_of_sides (T : Txt P w K mg) (n : Nat) : FnM P w K mg base (1 + n) "_add_steps_of_sides" P_u_add_steps_of_sides (m_u_add_steps_of_sides n) := (oks_u_add_steps_of_sides T n).1
theorem ok_u_add_steps_inside (T : Txt P w K mg) (n : Nat) : FnM P w K mg base (1 + n) "_add_steps_inside" P_u_add_steps_inside (m_u_add_steps_inside n) := (oks_u_add_steps_of_sides T n).2

theorem q_u_add_steps_of_compare (T : Txt P w K mg) (cdv : Value) (A : Around) (outer : List Env) (s : Shared) (H : Hp) (E : XK) (hr : Room 21 (A.deeper (envOfC "_add_steps_of_compare" (defScope s_u_add_steps_of_compare) s.heap.objs.size (He.ga K "_add_steps_of_compare") cdv))) : QSs (cxOf (L2.CX P w) P w K mg base N_u_add_steps_of_compare "_add_steps_of_compare" (defScope s_u_add_steps_of_compare) (He.ga K "_add_steps_of_compare") cdv A outer s H E) (fun cls d _ H => E cls d H) (defBody s_u_add_steps_of_compare) b_u_add_steps_of_compare := by
  have tk := takes_of (X := (cxOf (L2.CX P w) P w K mg base N_u_add_steps_of_compare "_add_steps_of_compare" (defScope s_u_add_steps_of_compare) (He.ga K "_add_steps_of_compare") cdv A outer s H E)) (E := E) rfl rfl rfl rfl
  have hp := passes_of (X := (cxOf (L2.CX P w) P w K mg base N_u_add_steps_of_compare "_add_steps_of_compare" (defScope s_u_add_steps_of_compare) (He.ga K "_add_steps_of_compare") cdv A outer s H E)) rfl
  have nd := sc_u_add_steps_of_compare.nd
  exact (qss_cons (qs_asg (qe_var (i := 0)) (qg_tup rfl (qgs_cons (qg_name nd) (qgs_cons (qg_name nd) (qgs_cons (qg_name nd) (qgs_cons (qg_name nd) qgs_nil))))))
      (qss_one (qs_if (qt_cmp (op_eqG hr.units) (qe_var (i := 3)) qe_str) (qss_cons (qs_drop (qf (ok_u_add_steps_inside T 20) tk (hr.mono (by omega)) rfl rfl (qa_cons (qe_var (i := 4)) (qa_cons (qe_var (i := 1)) qa_nil)) (len_cons (len_cons len_nil))))
      (qss_cons (qs_drop (qf (ok_u_add_steps_inside T 20) tk (hr.mono (by omega)) rfl rfl (qa_cons (qe_var (i := 5)) (qa_cons (qe_var (i := 1)) qa_nil)) (len_cons (len_cons len_nil))))
      (qss_one (qs_drop (qe_bm PySem.F.plainAttrs_list PySem.F.slot_list_append PySem.F.type_list_append mt_appendG (qe_var (i := 1)) (qa_cons (qe_tup (qa_cons qe_str (qa_cons (qe_var (i := 4)) (qa_cons (qe_var (i := 5)) qa_nil)))) qa_nil)))))) (qss_one (qs_drop (qf (ok_u_add_steps_of_sides T 20) tk (hr.mono (by omega)) rfl rfl (qa_cons (qe_var (i := 3)) (qa_cons (qe_var (i := 4)) (qa_cons (qe_var (i := 5)) (qa_cons (qe_var (i := 1)) qa_nil)))) (len_cons (len_cons (len_cons (len_cons len_nil))))))))))
theorem ok_u_add_steps_of_compare (T : Txt P w K mg) : FnM P w K mg base 22 "_add_steps_of_compare" P_u_add_steps_of_compare m_u_add_steps_of_compare := fnM_mk (N := N_u_add_steps_of_compare) T.d_u_add_steps_of_compare T.a_u_add_steps_of_compare sc_u_add_steps_of_compare (fun _ _ _ _ _ _ us hl => match us, hl with | [_, _], _ => rfl) (q_u_add_steps_of_compare T)

theorem q_first_rule_in (T : Txt P w K mg) (cdv : Value) (A : Around) (outer : List Env) (s : Shared) (H : Hp) (E : XK) (hr : Room 0 (A.deeper (envOfC "first_rule_in" (defScope s_first_rule_in) s.heap.objs.size (He.ga K "first_rule_in") cdv))) : QSs (cxOf (L2.CX P w) P w K mg base N_first_rule_in "first_rule_in" (defScope s_first_rule_in) (He.ga K "first_rule_in") cdv A outer s H E) (fun cls d _ H => E cls d H) (defBody s_first_rule_in) b_first_rule_in := by
  have tk := takes_of (X := (cxOf (L2.CX P w) P w K mg base N_first_rule_in "first_rule_in" (defScope s_first_rule_in) (He.ga K "first_rule_in") cdv A outer s H E)) (E := E) rfl rfl rfl rfl
  have hp := passes_of (X := (cxOf (L2.CX P w) P w K mg base N_first_rule_in "first_rule_in" (defScope s_first_rule_in) (He.ga K "first_rule_in") cdv A outer s H E)) rfl
  have nd := sc_first_rule_in.nd
  exact (qss_cons (qs_set (i := 1) nd (qe_subH (hu_of hr) (qe_var (i := 0)) qe_int))
      (qss_one (qs_ret (qe_ifExp (qt_w (qw_or (qt_cmp (op_inH (hu65 hr)) (qe_var (i := 1)) (qe_gc rfl T.g_OPERATORS_WITH_LIMITS)) (qw_one' (qt_cmp (op_inH (hu65 hr)) (qe_var (i := 1)) (qe_gc rfl T.g_PREFIXES_WITH_LIMITS))))) qe_int qe_int))))
theorem ok_first_rule_in (T : Txt P w K mg) : FnM P w K mg base 1 "first_rule_in" P_first_rule_in m_first_rule_in := fnM_mk (N := N_first_rule_in) T.d_first_rule_in T.a_first_rule_in sc_first_rule_in (fun _ _ _ _ _ _ us hl => match us, hl with | [_], _ => rfl) (q_first_rule_in T)

theorem q_rules_in (T : Txt P w K mg) (cdv : Value) (A : Around) (outer : List Env) (s : Shared) (H : Hp) (E : XK) (hr : Room 1 (A.deeper (envOfC "rules_in" (defScope s_rules_in) s.heap.objs.size (He.ga K "rules_in") cdv))) : QSs (cxOf (L2.CX P w) P w K mg base N_rules_in "rules_in" (defScope s_rules_in) (He.ga K "rules_in") cdv A outer s H E) (fun cls d _ H => E cls d H) (defBody s_rules_in) b_rules_in := by
  have tk := takes_of (X := (cxOf (L2.CX P w) P w K mg base N_rules_in "rules_in" (defScope s_rules_in) (He.ga K "rules_in") cdv A outer s H E)) (E := E) rfl rfl rfl rfl
  have hp := passes_of (X := (cxOf (L2.CX P w) P w K mg base N_rules_in "rules_in" (defScope s_rules_in) (He.ga K "rules_in") cdv A outer s H E)) rfl
  have nd := sc_rules_in.nd
  exact (qss_one (qs_ret (qe_slice sl_T (qe_var (i := 0)) (qo_some (qf (ok_first_rule_in T) tk (hr.mono (by omega)) rfl rfl (qa_cons (qe_var (i := 0)) qa_nil) (len_cons len_nil))) qo_none)))
theorem ok_rules_in (T : Txt P w K mg) : FnM P w K mg base 2 "rules_in" P_rules_in m_rules_in := fnM_mk (N := N_rules_in) T.d_rules_in T.a_rules_in sc_rules_in (fun _ _ _ _ _ _ us hl => match us, hl with | [_], _ => rfl) (q_rules_in T)

theorem q_u_add_steps (T : Txt P w K mg) (n : Nat) (F_u_add_steps : FnM P w K mg base (23 + n) "_add_steps" P_u_add_steps (m_u_add_steps n)) (cdv : Value) (A : Around) (outer : List Env) (s : Shared) (H : Hp) (E : XK) (hr : Room (23 + n) (A.deeper (envOfC "_add_steps" (defScope s_u_add_steps) s.heap.objs.size (He.ga K "_add_steps") cdv))) : QSs (cxOf (L2.CX P w) P w K mg base N_u_add_steps "_add_steps" (defScope s_u_add_steps) (He.ga K "_add_steps") cdv A outer s H E) (fun cls d _ H => E cls d H) (defBody s_u_add_steps) (b_u_add_steps (m_u_add_steps n)) := by
  have tk := takes_of (X := (cxOf (L2.CX P w) P w K mg base N_u_add_steps "_add_steps" (defScope s_u_add_steps) (He.ga K "_add_steps") cdv A outer s H E)) (E := E) rfl rfl rfl rfl
  have hp := passes_of (X := (cxOf (L2.CX P w) P w K mg base N_u_add_steps "_add_steps" (defScope s_u_add_steps) (He.ga K "_add_steps") cdv A outer s H E)) rfl
  have nd := sc_u_add_steps.nd
  exact (qss_cons (qs_set (i := 3) nd (qe_subH (hu_of hr) (qe_var (i := 0)) qe_int))
      (qss_one (qs_if (qt_cmp (op_eqG hr.units) (qe_var (i := 3)) qe_str) (qss_one (qs_for (ms := L_u_add_steps_1 (m_u_add_steps n)) hp rfl (qi_zip rfl T.z_zip (qa_cons (qe_subH (hu_of hr) (qe_var (i := 1)) (qe_subH (hu_of hr) (qe_var (i := 0)) qe_int)) (qa_cons (qe_subH (hu_of hr) (qe_var (i := 0)) qe_int) qa_nil))) (qg_tup rfl (qgs_cons (qg_name nd) (qgs_cons (qg_name nd) qgs_nil))) (qss_one (qs_drop (qe_bm PySem.F.plainAttrs_list PySem.F.slot_list_append PySem.F.type_list_append mt_appendG (qe_var (i := 2)) (qa_cons (qe_tup (qa_cons qe_str (qa_cons (qe_var (i := 4)) (qa_cons (qe_var (i := 5)) (qa_cons (qe_subH (hu_of hr) (qe_var (i := 0)) qe_int) qa_nil))))) qa_nil)))))) (qss_one (qs_if (qt_cmp (op_eqG hr.units) (qe_var (i := 3)) qe_str) (qss_one (qs_drop (qf (ok_u_add_steps_of_compare T) tk (hr.mono (by omega)) rfl rfl (qa_cons (qe_var (i := 0)) (qa_cons (qe_var (i := 2)) qa_nil)) (len_cons (len_cons len_nil))))) (qss_one (qs_if (qt_cmp (op_eqG hr.units) (qe_var (i := 3)) qe_str) (qss_cons (qs_drop (qe_bm PySem.F.plainAttrs_list PySem.F.slot_list_append PySem.F.type_list_append mt_appendG (qe_var (i := 2)) (qa_cons (qe_tup (qa_cons qe_str (qa_cons (qe_tup (qa_cons qe_str (qa_cons (qe_subH (hu_of hr) (qe_var (i := 0)) qe_int) qa_nil))) qa_nil))) qa_nil)))
      (qss_one (qs_drop (qf F_u_add_steps tk (hr.mono (by omega)) rfl rfl (qa_cons (qe_subH (hu_of hr) (qe_var (i := 0)) qe_int) (qa_cons (qe_var (i := 1)) (qa_cons (qe_var (i := 2)) qa_nil))) (len_cons (len_cons (len_cons len_nil))))))) (qss_one (qs_if (qt_cmp (op_eqG hr.units) (qe_var (i := 3)) qe_str) (qss_cons (qs_asg (qe_var (i := 0)) (qg_tup rfl (qgs_cons (qg_name nd) (qgs_cons (qg_name nd) (qgs_cons (qg_name nd) (qgs_cons (qg_name nd) (qgs_cons (qg_name nd) (qgs_cons (qg_name nd) qgs_nil))))))))
      (qss_cons (qs_drop (qf F_u_add_steps tk (hr.mono (by omega)) rfl rfl (qa_cons (qe_var (i := 10)) (qa_cons (qe_var (i := 1)) (qa_cons (qe_var (i := 2)) qa_nil))) (len_cons (len_cons (len_cons len_nil)))))
      (qss_cons (qs_set (i := 11) nd (qe_ifExp (qt_cmp op_isG (qe_var (i := 9)) qe_non) (qe_tup (qa_cons (qe_var (i := 7)) qa_nil)) (qe_tup (qa_cons (qe_var (i := 7)) (qa_cons (qe_var (i := 9)) qa_nil)))))
      (qss_one (qs_for (ms := L_u_add_steps_2 (m_u_add_steps n)) hp rfl (qi_any (qe_var (i := 11))) (qg_name nd) (qss_one (qs_drop (qe_bm PySem.F.plainAttrs_list PySem.F.slot_list_append PySem.F.type_list_append mt_appendG (qe_var (i := 2)) (qa_cons (qe_tup (qa_cons qe_str (qa_cons (qe_gc rfl T.g_NUMBER) (qa_cons (qe_tup (qa_cons qe_str (qa_cons (qe_var (i := 12)) qa_nil))) (qa_cons (qe_var (i := 8)) qa_nil))))) qa_nil))))))))) (qss_one (qs_for (ms := L_u_add_steps_3 (m_u_add_steps n)) hp rfl (qi_any (qf (ok_rules_in T) tk (hr.mono (by omega)) rfl rfl (qa_cons (qe_var (i := 0)) qa_nil) (len_cons len_nil))) (qg_name nd) (qss_one (qs_drop (qf F_u_add_steps tk (hr.mono (by omega)) rfl rfl (qa_cons (qe_var (i := 10)) (qa_cons (qe_var (i := 1)) (qa_cons (qe_var (i := 2)) qa_nil))) (len_cons (len_cons (len_cons len_nil)))))))))))))))))

theorem oks_u_add_steps (T : Txt P w K mg) : ∀ n : Nat, FnM P w K mg base (23 + n) "_add_steps" P_u_add_steps (m_u_add_steps n)
  | 0 => fnM_mk (k := 22) (N := N_u_add_steps) T.d_u_add_steps T.a_u_add_steps sc_u_add_steps (fun _ _ _ _ _ _ us hl => match us, hl with | [_, _, _], _ => rfl) (fun _ _ _ _ _ _ _ => qss_bad)
  | n + 1 => by
    have ih := oks_u_add_steps T n
    exact fnM_mk (k := 23 + n) (N := N_u_add_steps) T.d_u_add_steps T.a_u_add_steps sc_u_add_steps (fun _ _ _ _ _ _ us hl => match us, hl with | [_, _, _], _ => rfl) (q_u_add_steps T n ih)
theorem ok_u_add_steps (T : Txt P w K mg) (n : Nat) : FnM P w K mg base (23 + n) "_add_steps" P_u_add_steps (m_u_add_steps n) := (oks_u_add_steps T n)

theorem q_u_give (T : Txt P w K mg) (cdv : Value) (A : Around) (outer : List Env) (s : Shared) (H : Hp) (E : XK) (hr : Room 0 (A.deeper (envOfC "_give" (defScope s_u_give) s.heap.objs.size (He.ga K "_give") cdv))) : QSs (cxOf (L2.CX P w) P w K mg base N_u_give "_give" (defScope s_u_give) (He.ga K "_give") cdv A outer s H E) (fun cls d _ H => E cls d H) (defBody s_u_give) b_u_give := by
  have tk := takes_of (X := (cxOf (L2.CX P w) P w K mg base N_u_give "_give" (defScope s_u_give) (He.ga K "_give") cdv A outer s H E)) (E := E) rfl rfl rfl rfl
  have hp := passes_of (X := (cxOf (L2.CX P w) P w K mg base N_u_give "_give" (defScope s_u_give) (He.ga K "_give") cdv A outer s H E)) rfl
  have nd := sc_u_give.nd
  exact (qss_one (qs_if (qt_w (qw_and (qt_cmp (op_eqG hr.units) (qe_subH (hu_of hr) (qe_var (i := 0)) qe_int) qe_str) (qw_one (qt_cmp op_isnG (qe_var (i := 1)) qe_non)))) (qss_one (qs_drop (qe_bm PySem.F.plainAttrs_dict PySem.F.slot_dict_setdefault PySem.F.type_dict_setdefault (mt_setdG (hu_of hr)) (qe_var (i := 2)) (qa_cons (qe_subH (hu_of hr) (qe_var (i := 0)) qe_int) (qa_cons (qe_var (i := 1)) qa_nil))))) qss_nil))
theorem ok_u_give (T : Txt P w K mg) : FnM P w K mg base 1 "_give" P_u_give m_u_give := fnM_mk (N := N_u_give) T.d_u_give T.a_u_give sc_u_give (fun _ _ _ _ _ _ us hl => match us, hl with | [_, _, _], _ => rfl) (q_u_give T)

theorem q_u_kind (T : Txt P w K mg) (cdv : Value) (A : Around) (outer : List Env) (s : Shared) (H : Hp) (E : XK) (hr : Room 0 (A.deeper (envOfC "_kind" (defScope s_u_kind) s.heap.objs.size (He.ga K "_kind") cdv))) : QSs (cxOf (L2.CX P w) P w K mg base N_u_kind "_kind" (defScope s_u_kind) (He.ga K "_kind") cdv A outer s H E) (fun cls d _ H => E cls d H) (defBody s_u_kind) b_u_kind := by
  have tk := takes_of (X := (cxOf (L2.CX P w) P w K mg base N_u_kind "_kind" (defScope s_u_kind) (He.ga K "_kind") cdv A outer s H E)) (E := E) rfl rfl rfl rfl
  have hp := passes_of (X := (cxOf (L2.CX P w) P w K mg base N_u_kind "_kind" (defScope s_u_kind) (He.ga K "_kind") cdv A outer s H E)) rfl
  have nd := sc_u_kind.nd
  exact (qss_cons (qs_set (i := 2) nd (qe_subH (hu_of hr) (qe_var (i := 0)) qe_int))
      (qss_cons (qs_if (qt_cmp (op_eqG hr.units) (qe_var (i := 2)) qe_str) (qss_one (qs_ret (qe_bm PySem.F.plainAttrs_dict PySem.F.slot_dict_get PySem.F.type_dict_get (mt_getG (hu_of hr)) (qe_var (i := 1)) (qa_cons (qe_subH (hu_of hr) (qe_var (i := 0)) qe_int) qa_nil)))) qss_nil)
      (qss_one (qs_ret (qe_ifExp (qt_cmp (op_eqG hr.units) (qe_var (i := 2)) qe_str) (qe_gc rfl T.g_WORD) (qe_gc rfl T.g_NUMBER))))))
theorem ok_u_kind (T : Txt P w K mg) : FnM P w K mg base 1 "_kind" P_u_kind m_u_kind := fnM_mk (N := N_u_kind) T.d_u_kind T.a_u_kind sc_u_kind (fun _ _ _ _ _ _ us hl => match us, hl with | [_, _], _ => rfl) (q_u_kind T)

theorem q_u_learn (T : Txt P w K mg) (cdv : Value) (A : Around) (outer : List Env) (s : Shared) (H : Hp) (E : XK) (hr : Room 1 (A.deeper (envOfC "_learn" (defScope s_u_learn) s.heap.objs.size (He.ga K "_learn") cdv))) : QSs (cxOf (L2.CX P w) P w K mg base N_u_learn "_learn" (defScope s_u_learn) (He.ga K "_learn") cdv A outer s H E) (fun cls d _ H => E cls d H) (defBody s_u_learn) b_u_learn := by
  have tk := takes_of (X := (cxOf (L2.CX P w) P w K mg base N_u_learn "_learn" (defScope s_u_learn) (He.ga K "_learn") cdv A outer s H E)) (E := E) rfl rfl rfl rfl
  have hp := passes_of (X := (cxOf (L2.CX P w) P w K mg base N_u_learn "_learn" (defScope s_u_learn) (He.ga K "_learn") cdv A outer s H E)) rfl
  have nd := sc_u_learn.nd
  exact (qss_one (qs_if (qt_cmp (op_eqG hr.units) (qe_subH (hu_of hr) (qe_var (i := 0)) qe_int) qe_str) (qss_one (qs_drop (qf (ok_u_give T) tk (hr.mono (by omega)) rfl rfl (qa_cons (qe_subH (hu_of hr) (qe_var (i := 0)) qe_int) (qa_cons (qe_subH (hu_of hr) (qe_var (i := 0)) qe_int) (qa_cons (qe_var (i := 1)) qa_nil))) (len_cons (len_cons (len_cons len_nil)))))) (qss_one (qs_if (qt_cmp (op_eqG hr.units) (qe_subH (hu_of hr) (qe_var (i := 0)) qe_int) qe_str) (qss_cons (qs_asg (qe_var (i := 0)) (qg_tup rfl (qgs_cons (qg_name nd) (qgs_cons (qg_name nd) (qgs_cons (qg_name nd) qgs_nil)))))
      (qss_cons (qs_drop (qf (ok_u_give T) tk (hr.mono (by omega)) rfl rfl (qa_cons (qe_var (i := 3)) (qa_cons (qf (ok_u_kind T) tk (hr.mono (by omega)) rfl rfl (qa_cons (qe_var (i := 4)) (qa_cons (qe_var (i := 1)) qa_nil)) (len_cons (len_cons len_nil))) (qa_cons (qe_var (i := 1)) qa_nil))) (len_cons (len_cons (len_cons len_nil)))))
      (qss_one (qs_drop (qf (ok_u_give T) tk (hr.mono (by omega)) rfl rfl (qa_cons (qe_var (i := 4)) (qa_cons (qf (ok_u_kind T) tk (hr.mono (by omega)) rfl rfl (qa_cons (qe_var (i := 3)) (qa_cons (qe_var (i := 1)) qa_nil)) (len_cons (len_cons len_nil))) (qa_cons (qe_var (i := 1)) qa_nil))) (len_cons (len_cons (len_cons len_nil)))))))) qss_nil))))
theorem ok_u_learn (T : Txt P w K mg) : FnM P w K mg base 2 "_learn" P_u_learn m_u_learn := fnM_mk (N := N_u_learn) T.d_u_learn T.a_u_learn sc_u_learn (fun _ _ _ _ _ _ us hl => match us, hl with | [_, _], _ => rfl) (q_u_learn T)

theorem q_u_check (T : Txt P w K mg) (cdv : Value) (A : Around) (outer : List Env) (s : Shared) (H : Hp) (E : XK) (hr : Room 2 (A.deeper (envOfC "_check" (defScope s_u_check) s.heap.objs.size (He.ga K "_check") cdv))) : QSs (cxOf (L2.CX P w) P w K mg base N_u_check "_check" (defScope s_u_check) (He.ga K "_check") cdv A outer s H E) (fun cls d _ H => E cls d H) (defBody s_u_check) b_u_check := by
  have tk := takes_of (X := (cxOf (L2.CX P w) P w K mg base N_u_check "_check" (defScope s_u_check) (He.ga K "_check") cdv A outer s H E)) (E := E) rfl rfl rfl rfl
  have hp := passes_of (X := (cxOf (L2.CX P w) P w K mg base N_u_check "_check" (defScope s_u_check) (He.ga K "_check") cdv A outer s H E)) rfl
  have nd := sc_u_check.nd
  exact (qss_one (qs_if (qt_cmp (op_eqG hr.units) (qe_subH (hu_of hr) (qe_var (i := 0)) qe_int) qe_str) (qss_cons (qs_asg (qe_var (i := 0)) (qg_tup rfl (qgs_cons (qg_name nd) (qgs_cons (qg_name nd) (qgs_cons (qg_name nd) (qgs_cons (qg_name nd) qgs_nil))))))
      (qss_one (qs_if (qt_cmp (op_ninH (hu65 hr)) (qf (ok_u_kind T) tk (hr.mono (by omega)) rfl rfl (qa_cons (qe_var (i := 4)) (qa_cons (qe_var (i := 1)) qa_nil)) (len_cons (len_cons len_nil))) (qe_tup (qa_cons (qe_var (i := 3)) (qa_cons qe_non qa_nil)))) (qss_one (qs_raise1 T.e_WrongKind (T.ini base) (hr.mono (by omega)) rfl tk rfl T.a_WrongKind (qa_cons (qe_var (i := 5)) qa_nil))) qss_nil))) (qss_one (qs_if (qt_cmp (op_eqG hr.units) (qe_subH (hu_of hr) (qe_var (i := 0)) qe_int) qe_str) (qss_cons (qs_par (i := 6) (j := 7) rfl nd rfl rfl (by decide) rfl rfl (qa_cons (qf (ok_u_kind T) tk (hr.mono (by omega)) rfl rfl (qa_cons (qe_subH (hu_of hr) (qe_var (i := 0)) qe_int) (qa_cons (qe_var (i := 1)) qa_nil)) (len_cons (len_cons len_nil))) (qa_cons (qf (ok_u_kind T) tk (hr.mono (by omega)) rfl rfl (qa_cons (qe_subH (hu_of hr) (qe_var (i := 0)) qe_int) (qa_cons (qe_var (i := 1)) qa_nil)) (len_cons (len_cons len_nil))) qa_nil)))
      (qss_one (qs_if (qt_w (qw_and (qt_cmp op_isnG (qe_var (i := 6)) qe_non) (qw_and (qt_cmp op_isnG (qe_var (i := 7)) qe_non) (qw_one (qt_cmp (op_neG hr.units) (qe_var (i := 6)) (qe_var (i := 7))))))) (qss_one (qs_raise1 T.e_WrongKind (T.ini base) (hr.mono (by omega)) rfl tk rfl T.a_WrongKind (qa_cons qe_str qa_nil))) qss_nil))) qss_nil))))
theorem ok_u_check (T : Txt P w K mg) : FnM P w K mg base 3 "_check" P_u_check m_u_check := fnM_mk (N := N_u_check) T.d_u_check T.a_u_check sc_u_check (fun _ _ _ _ _ _ us hl => match us, hl with | [_, _], _ => rfl) (q_u_check T)

theorem q_u_check_known (T : Txt P w K mg) (cdv : Value) (A : Around) (outer : List Env) (s : Shared) (H : Hp) (E : XK) (hr : Room 2 (A.deeper (envOfC "_check_known" (defScope s_u_check_known) s.heap.objs.size (He.ga K "_check_known") cdv))) : QSs (cxOf (L2.CX P w) P w K mg base N_u_check_known "_check_known" (defScope s_u_check_known) (He.ga K "_check_known") cdv A outer s H E) (fun cls d _ H => E cls d H) (defBody s_u_check_known) b_u_check_known := by
  have tk := takes_of (X := (cxOf (L2.CX P w) P w K mg base N_u_check_known "_check_known" (defScope s_u_check_known) (He.ga K "_check_known") cdv A outer s H E)) (E := E) rfl rfl rfl rfl
  have hp := passes_of (X := (cxOf (L2.CX P w) P w K mg base N_u_check_known "_check_known" (defScope s_u_check_known) (He.ga K "_check_known") cdv A outer s H E)) rfl
  have nd := sc_u_check_known.nd
  exact (qss_one (qs_if (qt_cmp (op_neG hr.units) (qe_subH (hu_of hr) (qe_var (i := 0)) qe_int) qe_str) (qss_one (qs_for (ms := L_u_check_known_1) hp rfl (qi_any (qe_slice sl_T (qe_var (i := 0)) (qo_some qe_int) qo_none)) (qg_name nd) (qss_one (qs_if (qt_cmp op_isG (qf (ok_u_kind T) tk (hr.mono (by omega)) rfl rfl (qa_cons (qe_var (i := 2)) (qa_cons (qe_var (i := 1)) qa_nil)) (len_cons (len_cons len_nil))) qe_non) (qss_one (qs_raise1 T.e_NoKind (T.ini base) (hr.mono (by omega)) rfl tk rfl T.a_NoKind (qa_cons (qe_subH (hu_of hr) (qe_bm PySem.F.plainAttrs_str PySem.F.slot_str_partition PySem.F.type_str_partition mt_partG (qe_subH (hu_of hr) (qe_var (i := 2)) qe_int) (qa_cons qe_str qa_nil)) qe_int) qa_nil))) qss_nil)))) qss_nil))
theorem ok_u_check_known (T : Txt P w K mg) : FnM P w K mg base 3 "_check_known" P_u_check_known m_u_check_known := fnM_mk (N := N_u_check_known) T.d_u_check_known T.a_u_check_known sc_u_check_known (fun _ _ _ _ _ _ us hl => match us, hl with | [_, _], _ => rfl) (q_u_check_known T)

theorem q_kinds_of (T : Txt P w K mg) (cdv : Value) (A : Around) (outer : List Env) (s : Shared) (H : Hp) (E : XK) (hr : Room 43 (A.deeper (envOfC "kinds_of" (defScope s_kinds_of) s.heap.objs.size (He.ga K "kinds_of") cdv))) : QSs (cxOf (L2.CX P w) P w K mg base N_kinds_of "kinds_of" (defScope s_kinds_of) (He.ga K "kinds_of") cdv A outer s H E) (fun cls d _ H => E cls d H) (defBody s_kinds_of) b_kinds_of := by
  have tk := takes_of (X := (cxOf (L2.CX P w) P w K mg base N_kinds_of "kinds_of" (defScope s_kinds_of) (He.ga K "kinds_of") cdv A outer s H E)) (E := E) rfl rfl rfl rfl
  have hp := passes_of (X := (cxOf (L2.CX P w) P w K mg base N_kinds_of "kinds_of" (defScope s_kinds_of) (He.ga K "kinds_of") cdv A outer s H E)) rfl
  have nd := sc_kinds_of.nd
  exact (qss_cons (qs_set (i := 2) nd (qe_lst qa_nil))
      (qss_cons (qs_drop (qf (ok_u_add_steps T 20) tk (hr.mono (by omega)) rfl rfl (qa_cons (qe_var (i := 0)) (qa_cons (qe_var (i := 1)) (qa_cons (qe_var (i := 2)) qa_nil))) (len_cons (len_cons (len_cons len_nil)))))
      (qss_cons (qs_set (i := 3) nd qe_dict0)
      (qss_cons (qs_set (i := 4) nd (qe_un un_negG qe_int))
      (qss_cons (qs_while (ta := T_kinds_of_1) (ms := L_kinds_of_1) hp (qt_cmp op_ltG (qe_var (i := 4)) (qe_callB call_lenQ rfl T.z_len bo_len (qa_cons (qe_var (i := 3)) qa_nil))) (qss_cons (qs_set (i := 4) nd (qe_callB call_lenQ rfl T.z_len bo_len (qa_cons (qe_var (i := 3)) qa_nil)))
      (qss_one (qs_for (ms := L_kinds_of_2) hp rfl (qi_any (qe_var (i := 2))) (qg_name nd) (qss_one (qs_drop (qf (ok_u_learn T) tk (hr.mono (by omega)) rfl rfl (qa_cons (qe_var (i := 5)) (qa_cons (qe_var (i := 3)) qa_nil)) (len_cons (len_cons len_nil)))))))))
      (qss_cons (qs_for (ms := L_kinds_of_3) hp rfl (qi_any (qe_var (i := 2))) (qg_name nd) (qss_one (qs_drop (qf (ok_u_check T) tk (hr.mono (by omega)) rfl rfl (qa_cons (qe_var (i := 5)) (qa_cons (qe_var (i := 3)) qa_nil)) (len_cons (len_cons len_nil))))))
      (qss_cons (qs_for (ms := L_kinds_of_4) hp rfl (qi_any (qe_var (i := 2))) (qg_name nd) (qss_one (qs_drop (qf (ok_u_check_known T) tk (hr.mono (by omega)) rfl rfl (qa_cons (qe_var (i := 5)) (qa_cons (qe_var (i := 3)) qa_nil)) (len_cons (len_cons len_nil))))))
      (qss_one (qs_ret (qe_var (i := 3)))))))))))
theorem ok_kinds_of (T : Txt P w K mg) : FnM P w K mg base 44 "kinds_of" P_kinds_of m_kinds_of := fnM_mk (N := N_kinds_of) T.d_kinds_of T.a_kinds_of sc_kinds_of (fun _ _ _ _ _ _ us hl => match us, hl with | [_, _], _ => rfl) (q_kinds_of T)

theorem q_u_law_told (T : Txt P w K mg) (cdv : Value) (A : Around) (outer : List Env) (s : Shared) (H : Hp) (E : XK) (hr : Room 44 (A.deeper (envOfC "_law_told" (defScope s_u_law_told) s.heap.objs.size (He.ga K "_law_told") cdv))) : QSs (cxOf (L2.CX P w) P w K mg base N_u_law_told "_law_told" (defScope s_u_law_told) (He.ga K "_law_told") cdv A outer s H E) (fun cls d _ H => E cls d H) (defBody s_u_law_told) b_u_law_told := by
  have tk := takes_of (X := (cxOf (L2.CX P w) P w K mg base N_u_law_told "_law_told" (defScope s_u_law_told) (He.ga K "_law_told") cdv A outer s H E)) (E := E) rfl rfl rfl rfl
  have hp := passes_of (X := (cxOf (L2.CX P w) P w K mg base N_u_law_told "_law_told" (defScope s_u_law_told) (He.ga K "_law_told") cdv A outer s H E)) rfl
  have nd := sc_u_law_told.nd
  exact (qss_one (qs_try T.subs rfl rfl nd tk (fun W pn xe tk hp => (qss_one (qs_ret (qf (ok_kinds_of T) tk (hr.mono (by omega)) rfl rfl (qa_cons (qe_var (i := 0)) (qa_cons (qe_disp (qp_cons qe_str (qe_tup (qa_cons qe_str qa_nil)) (qp_cons qe_str (qe_tup (qa_cons qe_str (qa_cons qe_str qa_nil))) qp_nil))) qa_nil)) (len_cons (len_cons len_nil)))))) (cl_cons (i := 1) rfl rfl rfl T.a_WrongKind (fun a o cls d pn hz hf => (se_catx (se_tup (ses_cons se_str (ses_cons (se_f (T.er "word" (by decide)) hz hf (pe_var (i := 1) rfl (Or.inl rfl))) ses_nil))) (se_tup (ses_cons se_str ses_nil)) (se_or (se_not (se_is T.subs (T.erI) hz hf rfl T.z_isinstance bo_isinstance (pe_var (i := 1) rfl (Or.inl rfl)) rfl T.a_RuleError)) (se_one (se_is T.subs (T.erI) hz hf rfl T.z_isinstance bo_isinstance (pe_var (i := 1) rfl (Or.inl rfl)) rfl T.a_NoKind))) rfl T.z_int bo_int)) (cl_cons (i := 1) rfl rfl rfl T.a_NoKind (fun a o cls d pn hz hf => (se_catx (se_tup (ses_cons se_str (ses_cons (se_f (T.er "word" (by decide)) hz hf (pe_var (i := 1) rfl (Or.inl rfl))) ses_nil))) (se_tup (ses_cons se_str ses_nil)) (se_or (se_not (se_is T.subs (T.erI) hz hf rfl T.z_isinstance bo_isinstance (pe_var (i := 1) rfl (Or.inl rfl)) rfl T.a_RuleError)) (se_one (se_not (se_is T.subs (T.erI) hz hf rfl T.z_isinstance bo_isinstance (pe_var (i := 1) rfl (Or.inl rfl)) rfl T.a_WatchError)))) rfl T.z_int bo_int)) cl_nil)) (CM.cons T.a_WrongKind (CM.cons T.a_NoKind CM.nil))))
theorem ok_u_law_told (T : Txt P w K mg) : FnM P w K mg base 45 "_law_told" P_u_law_told m_u_law_told := fnM_mk (N := N_u_law_told) T.d_u_law_told T.a_u_law_told sc_u_law_told (fun _ _ _ _ _ _ us hl => match us, hl with | [_], _ => rfl) (q_u_law_told T)

theorem q_u_law_term_steps (T : Txt P w K mg) (n : Nat) (F_u_law_term_steps : FnM P w K mg base (1 + n) "_law_term_steps" P_u_law_term_steps (m_u_law_term_steps n)) (cdv : Value) (A : Around) (outer : List Env) (s : Shared) (H : Hp) (E : XK) (hr : Room (1 + n) (A.deeper (envOfC "_law_term_steps" (defScope s_u_law_term_steps) s.heap.objs.size (He.ga K "_law_term_steps") cdv))) : QSs (cxOf (L2.CX P w) P w K mg base N_u_law_term_steps "_law_term_steps" (defScope s_u_law_term_steps) (He.ga K "_law_term_steps") cdv A outer s H E) (fun cls d _ H => E cls d H) (defBody s_u_law_term_steps) (b_u_law_term_steps (m_u_law_term_steps n)) := by
  have tk := takes_of (X := (cxOf (L2.CX P w) P w K mg base N_u_law_term_steps "_law_term_steps" (defScope s_u_law_term_steps) (He.ga K "_law_term_steps") cdv A outer s H E)) (E := E) rfl rfl rfl rfl
  have hp := passes_of (X := (cxOf (L2.CX P w) P w K mg base N_u_law_term_steps "_law_term_steps" (defScope s_u_law_term_steps) (He.ga K "_law_term_steps") cdv A outer s H E)) rfl
  have nd := sc_u_law_term_steps.nd
  exact (qss_cons (qs_set (i := 1) nd (qe_lst qa_nil))
      (qss_cons (qs_if (qt_cmp (op_inH (hu65 hr)) (qe_subH (hu_of hr) (qe_var (i := 0)) qe_int) (qe_tup (qa_cons qe_str (qa_cons qe_str qa_nil)))) (qss_one (qs_for (ms := L_u_law_term_steps_1 (m_u_law_term_steps n)) hp rfl (qi_any (qe_slice sl_T (qe_var (i := 0)) (qo_some qe_int) qo_none)) (qg_name nd) (qss_one (qs_set (i := 1) nd (qe_op op_addL (qe_op op_addL (qe_var (i := 1)) (qf F_u_law_term_steps tk (hr.mono (by omega)) rfl rfl (qa_cons (qe_var (i := 2)) qa_nil) (len_cons len_nil))) (qe_lst (qa_cons (qe_tup (qa_cons qe_str (qa_cons (qe_var (i := 2)) (qa_cons qe_str (qa_cons (qe_subH (hu_of hr) (qe_disp (qp_cons qe_str qe_str (qp_cons qe_str qe_str qp_nil))) (qe_subH (hu_of hr) (qe_var (i := 0)) qe_int)) qa_nil))))) qa_nil))))))) qss_nil)
      (qss_one (qs_ret (qe_var (i := 1))))))

theorem oks_u_law_term_steps (T : Txt P w K mg) : ∀ n : Nat, FnM P w K mg base (1 + n) "_law_term_steps" P_u_law_term_steps (m_u_law_term_steps n)
  | 0 => fnM_mk (k := 0) (N := N_u_law_term_steps) T.d_u_law_term_steps T.a_u_law_term_steps sc_u_law_term_steps (fun _ _ _ _ _ _ us hl => match us, hl with | [_], _ => rfl) (fun _ _ _ _ _ _ _ => qss_bad)
  | n + 1 => by
    have ih := oks_u_law_term_steps T n
    exact fnM_mk (k := 1 + n) (N := N_u_law_term_steps) T.d_u_law_term_steps T.a_u_law_term_steps sc_u_law_term_steps (fun _ _ _ _ _ _ us hl => match us, hl with | [_], _ => rfl) (q_u_law_term_steps T n ih)
theorem ok_u_law_term_steps (T : Txt P w K mg) (n : Nat) : FnM P w K mg base (1 + n) "_law_term_steps" P_u_law_term_steps (m_u_law_term_steps n) := (oks_u_law_term_steps T n)

theorem q_u_law_steps (T : Txt P w K mg) (n : Nat) (F_u_law_steps : FnM P w K mg base (22 + n) "_law_steps" P_u_law_steps (m_u_law_steps n)) (cdv : Value) (A : Around) (outer : List Env) (s : Shared) (H : Hp) (E : XK) (hr : Room (22 + n) (A.deeper (envOfC "_law_steps" (defScope s_u_law_steps) s.heap.objs.size (He.ga K "_law_steps") cdv))) : QSs (cxOf (L2.CX P w) P w K mg base N_u_law_steps "_law_steps" (defScope s_u_law_steps) (He.ga K "_law_steps") cdv A outer s H E) (fun cls d _ H => E cls d H) (defBody s_u_law_steps) (b_u_law_steps (m_u_law_steps n)) := by
  have tk := takes_of (X := (cxOf (L2.CX P w) P w K mg base N_u_law_steps "_law_steps" (defScope s_u_law_steps) (He.ga K "_law_steps") cdv A outer s H E)) (E := E) rfl rfl rfl rfl
  have hp := passes_of (X := (cxOf (L2.CX P w) P w K mg base N_u_law_steps "_law_steps" (defScope s_u_law_steps) (He.ga K "_law_steps") cdv A outer s H E)) rfl
  have nd := sc_u_law_steps.nd
  exact (qss_cons (qs_set (i := 1) nd (qe_subH (hu_of hr) (qe_var (i := 0)) qe_int))
      (qss_cons (qs_if (qt_cmp (op_eqG hr.units) (qe_var (i := 1)) qe_str) (qss_cons (qs_set (i := 2) nd (qe_subH (hu_of hr) (qe_disp (qp_cons qe_str (qe_lst (qa_cons qe_str qa_nil)) (qp_cons qe_str (qe_lst (qa_cons qe_str (qa_cons qe_str qa_nil))) qp_nil))) (qe_subH (hu_of hr) (qe_var (i := 0)) qe_int)))
      (qss_one (qs_ret (qe_lcG (own := [("k", 3)]) (.one 3) rfl nd (qi_range1 rfl T.z_range (qa_cons (qe_callB call_lenG rfl T.z_len bo_len (qa_cons (qe_var (i := 2)) qa_nil)) qa_nil)) (blkOk_by (N := N_u_law_steps) (sc := defScope s_u_law_steps) (by decide +kernel)) rfl (fun _ _ _ _ _ => (pg_name (i := 3) nd rfl (by first | exact Or.inl rfl | exact Or.inr rfl | exact Or.inr (Or.inl rfl)))) (fun _ _ _ _ _ => qts_nil) (fun _ _ _ _ _ => (qe_tup (qa_cons qe_str (qa_cons (qe_subH (hu_of hr) (qe_subH (hu_of hr) (qe_var (i := 0)) qe_int) (qe_var (i := 3))) (qa_cons (qe_subH (hu_of hr) (qe_var (i := 2)) (qe_var (i := 3))) (qa_cons (qe_subH (hu_of hr) (qe_var (i := 0)) qe_int) qa_nil)))))))))) qss_nil)
      (qss_cons (qs_if (qt_cmp (op_eqG hr.units) (qe_var (i := 1)) qe_str) (qss_cons (qs_set (i := 4) nd (qf (ok_u_law_term_steps T 20) tk (hr.mono (by omega)) rfl rfl (qa_cons (qe_subH (hu_of hr) (qe_var (i := 0)) qe_int) qa_nil) (len_cons len_nil)))
      (qss_cons (qs_if (qt_cmp (op_eqG hr.units) (qe_subH (hu_of hr) (qe_var (i := 0)) qe_int) qe_str) (qss_one (qs_ret (qe_op op_addL (qe_op op_addL (qe_var (i := 4)) (qf (ok_u_law_term_steps T 20) tk (hr.mono (by omega)) rfl rfl (qa_cons (qe_subH (hu_of hr) (qe_var (i := 0)) qe_int) qa_nil) (len_cons len_nil))) (qe_lst (qa_cons (qe_tup (qa_cons qe_str (qa_cons (qe_subH (hu_of hr) (qe_var (i := 0)) qe_int) (qa_cons (qe_subH (hu_of hr) (qe_var (i := 0)) qe_int) (qa_cons qe_str qa_nil))))) qa_nil))))) qss_nil)
      (qss_cons (qs_drop (qe_bm PySem.F.plainAttrs_list PySem.F.slot_list_append PySem.F.type_list_append mt_appendG (qe_var (i := 4)) (qa_cons (qe_tup (qa_cons qe_str (qa_cons (qe_subH (hu_of hr) (qe_var (i := 0)) qe_int) (qa_cons qe_str (qa_cons (qe_subH (hu_of hr) (qe_var (i := 0)) qe_int) qa_nil))))) qa_nil)))
      (qss_one (qs_ret (qe_op op_addL (qe_op op_addL (qe_var (i := 4)) (qf (ok_u_law_term_steps T 20) tk (hr.mono (by omega)) rfl rfl (qa_cons (qe_subH (hu_of hr) (qe_var (i := 0)) qe_int) qa_nil) (len_cons len_nil))) (qe_lst (qa_cons (qe_tup (qa_cons qe_str (qa_cons (qe_subH (hu_of hr) (qe_var (i := 0)) qe_int) (qa_cons qe_str (qa_cons (qe_subH (hu_of hr) (qe_var (i := 0)) qe_int) qa_nil))))) qa_nil)))))))) qss_nil)
      (qss_cons (qs_set (i := 4) nd (qe_lst qa_nil))
      (qss_cons (qs_for (ms := L_u_law_steps_1 (m_u_law_steps n)) hp rfl (qi_any (qe_slice sl_T (qe_var (i := 0)) (qo_some qe_int) qo_none)) (qg_name nd) (qss_one (qs_if (qt_w (qw_and (qt_val (qe_callB call_isiT' rfl T.z_isinstance bo_isinstance (qa_cons (qe_var (i := 5)) (qa_cons (qe_ty rfl T.z_tuple bo_tuple) qa_nil)))) (qw_one (qt_cmp (op_neG hr.units) (qe_var (i := 5)) (qe_tup qa_nil))))) (qss_one (qs_set (i := 4) nd (qe_op op_addL (qe_var (i := 4)) (qf F_u_law_steps tk (hr.mono (by omega)) rfl rfl (qa_cons (qe_var (i := 5)) qa_nil) (len_cons len_nil))))) qss_nil)))
      (qss_cons (qs_if (qt_cmp (op_eqG hr.units) (qe_var (i := 1)) qe_str) (qss_cons (qs_drop (qe_bm PySem.F.plainAttrs_list PySem.F.slot_list_append PySem.F.type_list_append mt_appendG (qe_var (i := 4)) (qa_cons (qe_tup (qa_cons qe_str (qa_cons (qe_tup (qa_cons qe_str (qa_cons (qe_subH (hu_of hr) (qe_var (i := 0)) qe_int) qa_nil))) (qa_cons qe_str (qa_cons (qe_subH (hu_of hr) (qe_var (i := 0)) qe_int) qa_nil))))) qa_nil)))
      (qss_one (qs_if (qt_cmp op_isnG (qe_subH (hu_of hr) (qe_var (i := 0)) qe_int) qe_non) (qss_one (qs_drop (qe_bm PySem.F.plainAttrs_list PySem.F.slot_list_append PySem.F.type_list_append mt_appendG (qe_var (i := 4)) (qa_cons (qe_tup (qa_cons qe_str (qa_cons (qe_tup (qa_cons qe_str (qa_cons (qe_subH (hu_of hr) (qe_var (i := 0)) qe_int) qa_nil))) (qa_cons qe_str (qa_cons (qe_subH (hu_of hr) (qe_var (i := 0)) qe_int) qa_nil))))) qa_nil)))) qss_nil))) qss_nil)
      (qss_one (qs_ret (qe_var (i := 4))))))))))

theorem oks_u_law_steps (T : Txt P w K mg) : ∀ n : Nat, FnM P w K mg base (22 + n) "_law_steps" P_u_law_steps (m_u_law_steps n)
  | 0 => fnM_mk (k := 21) (N := N_u_law_steps) T.d_u_law_steps T.a_u_law_steps sc_u_law_steps (fun _ _ _ _ _ _ us hl => match us, hl with | [_], _ => rfl) (fun _ _ _ _ _ _ _ => qss_bad)
  | n + 1 => by
    have ih := oks_u_law_steps T n
    exact fnM_mk (k := 22 + n) (N := N_u_law_steps) T.d_u_law_steps T.a_u_law_steps sc_u_law_steps (fun _ _ _ _ _ _ us hl => match us, hl with | [_], _ => rfl) (q_u_law_steps T n ih)
theorem ok_u_law_steps (T : Txt P w K mg) (n : Nat) : FnM P w K mg base (22 + n) "_law_steps" P_u_law_steps (m_u_law_steps n) := (oks_u_law_steps T n)

theorem q_u_law_learn (T : Txt P w K mg) (cdv : Value) (A : Around) (outer : List Env) (s : Shared) (H : Hp) (E : XK) (hr : Room 0 (A.deeper (envOfC "_law_learn" (defScope s_u_law_learn) s.heap.objs.size (He.ga K "_law_learn") cdv))) : QSs (cxOf (L2.CX P w) P w K mg base N_u_law_learn "_law_learn" (defScope s_u_law_learn) (He.ga K "_law_learn") cdv A outer s H E) (fun cls d _ H => E cls d H) (defBody s_u_law_learn) b_u_law_learn := by
  have tk := takes_of (X := (cxOf (L2.CX P w) P w K mg base N_u_law_learn "_law_learn" (defScope s_u_law_learn) (He.ga K "_law_learn") cdv A outer s H E)) (E := E) rfl rfl rfl rfl
  have hp := passes_of (X := (cxOf (L2.CX P w) P w K mg base N_u_law_learn "_law_learn" (defScope s_u_law_learn) (He.ga K "_law_learn") cdv A outer s H E)) rfl
  have nd := sc_u_law_learn.nd
  exact (qss_one (qs_if (qt_w (qw_and (qt_cmp (op_eqG hr.units) (qe_subH (hu_of hr) (qe_var (i := 1)) qe_int) qe_str) (qw_and (qt_cmp op_isnG (qe_var (i := 2)) qe_non) (qw_one (qt_cmp (op_ninH (hu65 hr)) (qe_subH (hu_of hr) (qe_var (i := 1)) qe_int) (qe_var (i := 0))))))) (qss_one (qs_putD (hu_of hr) (qe_var (i := 2)) (qe_var (i := 0)) (qe_subH (hu_of hr) (qe_var (i := 1)) qe_int))) qss_nil))
theorem ok_u_law_learn (T : Txt P w K mg) : FnM P w K mg base 1 "_law_learn" P_u_law_learn m_u_law_learn := fnM_mk (N := N_u_law_learn) T.d_u_law_learn T.a_u_law_learn sc_u_law_learn (fun _ _ _ _ _ _ us hl => match us, hl with | [_, _, _], _ => rfl) (q_u_law_learn T)

theorem q_u_law_kind (T : Txt P w K mg) (cdv : Value) (A : Around) (outer : List Env) (s : Shared) (H : Hp) (E : XK) (hr : Room 0 (A.deeper (envOfC "_law_kind" (defScope s_u_law_kind) s.heap.objs.size (He.ga K "_law_kind") cdv))) : QSs (cxOf (L2.CX P w) P w K mg base N_u_law_kind "_law_kind" (defScope s_u_law_kind) (He.ga K "_law_kind") cdv A outer s H E) (fun cls d _ H => E cls d H) (defBody s_u_law_kind) b_u_law_kind := by
  have tk := takes_of (X := (cxOf (L2.CX P w) P w K mg base N_u_law_kind "_law_kind" (defScope s_u_law_kind) (He.ga K "_law_kind") cdv A outer s H E)) (E := E) rfl rfl rfl rfl
  have hp := passes_of (X := (cxOf (L2.CX P w) P w K mg base N_u_law_kind "_law_kind" (defScope s_u_law_kind) (He.ga K "_law_kind") cdv A outer s H E)) rfl
  have nd := sc_u_law_kind.nd
  exact (qss_cons (qs_if (qt_cmp (op_eqG hr.units) (qe_subH (hu_of hr) (qe_var (i := 1)) qe_int) qe_str) (qss_one (qs_ret (qe_bm PySem.F.plainAttrs_dict PySem.F.slot_dict_get PySem.F.type_dict_get (mt_getG (hu_of hr)) (qe_var (i := 0)) (qa_cons (qe_subH (hu_of hr) (qe_var (i := 1)) qe_int) qa_nil)))) qss_nil)
      (qss_one (qs_ret (qe_subH (hu_of hr) (qe_lst (qa_cons qe_str (qa_cons qe_str qa_nil))) (qe_callTy call_toIntG rfl T.z_int bo_int (qa_cons (qe_cmp (op_eqG hr.units) (qe_subH (hu_of hr) (qe_var (i := 1)) qe_int) qe_str) qa_nil))))))
theorem ok_u_law_kind (T : Txt P w K mg) : FnM P w K mg base 1 "_law_kind" P_u_law_kind m_u_law_kind := fnM_mk (N := N_u_law_kind) T.d_u_law_kind T.a_u_law_kind sc_u_law_kind (fun _ _ _ _ _ _ us hl => match us, hl with | [_, _], _ => rfl) (q_u_law_kind T)

theorem q_u_law_term_names (T : Txt P w K mg) (n : Nat) (F_u_law_term_names : FnM P w K mg base (1 + n) "_law_term_names" P_u_law_term_names (m_u_law_term_names n)) (cdv : Value) (A : Around) (outer : List Env) (s : Shared) (H : Hp) (E : XK) (hr : Room (1 + n) (A.deeper (envOfC "_law_term_names" (defScope s_u_law_term_names) s.heap.objs.size (He.ga K "_law_term_names") cdv))) : QSs (cxOf (L2.CX P w) P w K mg base N_u_law_term_names "_law_term_names" (defScope s_u_law_term_names) (He.ga K "_law_term_names") cdv A outer s H E) (fun cls d _ H => E cls d H) (defBody s_u_law_term_names) (b_u_law_term_names (m_u_law_term_names n)) := by
  have tk := takes_of (X := (cxOf (L2.CX P w) P w K mg base N_u_law_term_names "_law_term_names" (defScope s_u_law_term_names) (He.ga K "_law_term_names") cdv A outer s H E)) (E := E) rfl rfl rfl rfl
  have hp := passes_of (X := (cxOf (L2.CX P w) P w K mg base N_u_law_term_names "_law_term_names" (defScope s_u_law_term_names) (He.ga K "_law_term_names") cdv A outer s H E)) rfl
  have nd := sc_u_law_term_names.nd
  exact (qss_cons (qs_if (qt_cmp (op_eqG hr.units) (qe_subH (hu_of hr) (qe_var (i := 0)) qe_int) qe_str) (qss_one (qs_ret (qe_lst (qa_cons (qe_subH (hu_of hr) (qe_var (i := 0)) qe_int) qa_nil)))) qss_nil)
      (qss_cons (qs_if (qt_cmp (op_inH (hu65 hr)) (qe_subH (hu_of hr) (qe_var (i := 0)) qe_int) (qe_tup (qa_cons qe_str (qa_cons qe_str qa_nil)))) (qss_one (qs_ret (qe_op op_addL (qf F_u_law_term_names tk (hr.mono (by omega)) rfl rfl (qa_cons (qe_subH (hu_of hr) (qe_var (i := 0)) qe_int) qa_nil) (len_cons len_nil)) (qf F_u_law_term_names tk (hr.mono (by omega)) rfl rfl (qa_cons (qe_subH (hu_of hr) (qe_var (i := 0)) qe_int) qa_nil) (len_cons len_nil))))) qss_nil)
      (qss_one (qs_ret (qe_lst qa_nil)))))

theorem oks_u_law_term_names (T : Txt P w K mg) : ∀ n : Nat, FnM P w K mg base (1 + n) "_law_term_names" P_u_law_term_names (m_u_law_term_names n)
  | 0 => fnM_mk (k := 0) (N := N_u_law_term_names) T.d_u_law_term_names T.a_u_law_term_names sc_u_law_term_names (fun _ _ _ _ _ _ us hl => match us, hl with | [_], _ => rfl) (fun _ _ _ _ _ _ _ => qss_bad)
  | n + 1 => by
    have ih := oks_u_law_term_names T n
    exact fnM_mk (k := 1 + n) (N := N_u_law_term_names) T.d_u_law_term_names T.a_u_law_term_names sc_u_law_term_names (fun _ _ _ _ _ _ us hl => match us, hl with | [_], _ => rfl) (q_u_law_term_names T n ih)
theorem ok_u_law_term_names (T : Txt P w K mg) (n : Nat) : FnM P w K mg base (1 + n) "_law_term_names" P_u_law_term_names (m_u_law_term_names n) := (oks_u_law_term_names T n)

theorem q_u_law_all (T : Txt P w K mg) (n : Nat) (F_u_law_all : FnM P w K mg base (22 + n) "_law_all" P_u_law_all (m_u_law_all n)) (cdv : Value) (A : Around) (outer : List Env) (s : Shared) (H : Hp) (E : XK) (hr : Room (22 + n) (A.deeper (envOfC "_law_all" (defScope s_u_law_all) s.heap.objs.size (He.ga K "_law_all") cdv))) : QSs (cxOf (L2.CX P w) P w K mg base N_u_law_all "_law_all" (defScope s_u_law_all) (He.ga K "_law_all") cdv A outer s H E) (fun cls d _ H => E cls d H) (defBody s_u_law_all) (b_u_law_all (m_u_law_all n)) := by
  have tk := takes_of (X := (cxOf (L2.CX P w) P w K mg base N_u_law_all "_law_all" (defScope s_u_law_all) (He.ga K "_law_all") cdv A outer s H E)) (E := E) rfl rfl rfl rfl
  have hp := passes_of (X := (cxOf (L2.CX P w) P w K mg base N_u_law_all "_law_all" (defScope s_u_law_all) (He.ga K "_law_all") cdv A outer s H E)) rfl
  have nd := sc_u_law_all.nd
  exact (qss_cons (qs_set (i := 1) nd (qe_lst qa_nil))
      (qss_cons (qs_if (qt_cmp (op_eqG hr.units) (qe_subH (hu_of hr) (qe_var (i := 0)) qe_int) qe_str) (qss_cons (qs_for (ms := L_u_law_all_1 (m_u_law_all n)) hp rfl (qi_any (qe_subH (hu_of hr) (qe_var (i := 0)) qe_int)) (qg_name nd) (qss_one (qs_set (i := 1) nd (qe_op op_addL (qe_var (i := 1)) (qf (ok_u_law_term_names T 20) tk (hr.mono (by omega)) rfl rfl (qa_cons (qe_var (i := 2)) qa_nil) (len_cons len_nil))))))
      (qss_one (qs_ret (qe_var (i := 1))))) qss_nil)
      (qss_cons (qs_if (qt_cmp (op_eqG hr.units) (qe_subH (hu_of hr) (qe_var (i := 0)) qe_int) qe_str) (qss_one (qs_ret (qe_op op_addL (qf (ok_u_law_term_names T 20) tk (hr.mono (by omega)) rfl rfl (qa_cons (qe_subH (hu_of hr) (qe_var (i := 0)) qe_int) qa_nil) (len_cons len_nil)) (qf (ok_u_law_term_names T 20) tk (hr.mono (by omega)) rfl rfl (qa_cons (qe_subH (hu_of hr) (qe_var (i := 0)) qe_int) qa_nil) (len_cons len_nil))))) qss_nil)
      (qss_cons (qs_if (qt_cmp (op_eqG hr.units) (qe_subH (hu_of hr) (qe_var (i := 0)) qe_int) qe_str) (qss_one (qs_drop (qe_bm PySem.F.plainAttrs_list PySem.F.slot_list_append PySem.F.type_list_append mt_appendG (qe_var (i := 1)) (qa_cons (qe_subH (hu_of hr) (qe_var (i := 0)) qe_int) qa_nil)))) qss_nil)
      (qss_cons (qs_for (ms := L_u_law_all_2 (m_u_law_all n)) hp rfl (qi_any (qe_slice sl_T (qe_var (i := 0)) (qo_some qe_int) qo_none)) (qg_name nd) (qss_one (qs_if (qt_w (qw_and (qt_val (qe_callB call_isiT' rfl T.z_isinstance bo_isinstance (qa_cons (qe_var (i := 2)) (qa_cons (qe_ty rfl T.z_tuple bo_tuple) qa_nil)))) (qw_one (qt_cmp (op_neG hr.units) (qe_var (i := 2)) (qe_tup qa_nil))))) (qss_one (qs_set (i := 1) nd (qe_op op_addL (qe_var (i := 1)) (qf F_u_law_all tk (hr.mono (by omega)) rfl rfl (qa_cons (qe_var (i := 2)) qa_nil) (len_cons len_nil))))) qss_nil)))
      (qss_one (qs_ret (qe_var (i := 1)))))))))

theorem oks_u_law_all (T : Txt P w K mg) : ∀ n : Nat, FnM P w K mg base (22 + n) "_law_all" P_u_law_all (m_u_law_all n)
  | 0 => fnM_mk (k := 21) (N := N_u_law_all) T.d_u_law_all T.a_u_law_all sc_u_law_all (fun _ _ _ _ _ _ us hl => match us, hl with | [_], _ => rfl) (fun _ _ _ _ _ _ _ => qss_bad)
  | n + 1 => by
    have ih := oks_u_law_all T n
    exact fnM_mk (k := 22 + n) (N := N_u_law_all) T.d_u_law_all T.a_u_law_all sc_u_law_all (fun _ _ _ _ _ _ us hl => match us, hl with | [_], _ => rfl) (q_u_law_all T n ih)
theorem ok_u_law_all (T : Txt P w K mg) (n : Nat) : FnM P w K mg base (22 + n) "_law_all" P_u_law_all (m_u_law_all n) := (oks_u_law_all T n)

theorem q_u_law_due (T : Txt P w K mg) (cdv : Value) (A : Around) (outer : List Env) (s : Shared) (H : Hp) (E : XK) (hr : Room 42 (A.deeper (envOfC "_law_due" (defScope s_u_law_due) s.heap.objs.size (He.ga K "_law_due") cdv))) : QSs (cxOf (L2.CX P w) P w K mg base N_u_law_due "_law_due" (defScope s_u_law_due) (He.ga K "_law_due") cdv A outer s H E) (fun cls d _ H => E cls d H) (defBody s_u_law_due) b_u_law_due := by
  have tk := takes_of (X := (cxOf (L2.CX P w) P w K mg base N_u_law_due "_law_due" (defScope s_u_law_due) (He.ga K "_law_due") cdv A outer s H E)) (E := E) rfl rfl rfl rfl
  have hp := passes_of (X := (cxOf (L2.CX P w) P w K mg base N_u_law_due "_law_due" (defScope s_u_law_due) (He.ga K "_law_due") cdv A outer s H E)) rfl
  have nd := sc_u_law_due.nd
  exact (qss_cons (qs_set (i := 1) nd (qf (ok_u_law_steps T 20) tk (hr.mono (by omega)) rfl rfl (qa_cons (qe_var (i := 0)) qa_nil) (len_cons len_nil)))
      (qss_cons (qs_set (i := 2) nd qe_dict0)
      (qss_cons (qs_for (ms := L_u_law_due_1) hp rfl (qi_range1 rfl T.z_range (qa_cons qe_int qa_nil)) (qg_name nd) (qss_one (qs_for (ms := L_u_law_due_2) hp rfl (qi_any (qe_var (i := 1))) (qg_tup rfl (qgs_cons (qg_name nd) (qgs_cons (qg_name nd) (qgs_cons (qg_name nd) (qgs_cons (qg_name nd) qgs_nil))))) (qss_one (qs_if (qt_cmp (op_eqG hr.units) (qe_var (i := 4)) qe_str) (qss_one (qs_drop (qf (ok_u_law_learn T) tk (hr.mono (by omega)) rfl rfl (qa_cons (qe_var (i := 2)) (qa_cons (qe_var (i := 5)) (qa_cons (qe_var (i := 6)) qa_nil))) (len_cons (len_cons (len_cons len_nil)))))) (qss_cons (qs_drop (qf (ok_u_law_learn T) tk (hr.mono (by omega)) rfl rfl (qa_cons (qe_var (i := 2)) (qa_cons (qe_var (i := 5)) (qa_cons (qf (ok_u_law_kind T) tk (hr.mono (by omega)) rfl rfl (qa_cons (qe_var (i := 2)) (qa_cons (qe_var (i := 6)) qa_nil)) (len_cons (len_cons len_nil))) qa_nil))) (len_cons (len_cons (len_cons len_nil)))))
      (qss_one (qs_drop (qf (ok_u_law_learn T) tk (hr.mono (by omega)) rfl rfl (qa_cons (qe_var (i := 2)) (qa_cons (qe_var (i := 6)) (qa_cons (qf (ok_u_law_kind T) tk (hr.mono (by omega)) rfl rfl (qa_cons (qe_var (i := 2)) (qa_cons (qe_var (i := 5)) qa_nil)) (len_cons (len_cons len_nil))) qa_nil))) (len_cons (len_cons (len_cons len_nil))))))))))))
      (qss_cons (qs_for (ms := L_u_law_due_3) hp rfl (qi_any (qe_var (i := 1))) (qg_tup rfl (qgs_cons (qg_name nd) (qgs_cons (qg_name nd) (qgs_cons (qg_name nd) (qgs_cons (qg_name nd) qgs_nil))))) (qss_cons (qs_set (i := 8) nd (qf (ok_u_law_kind T) tk (hr.mono (by omega)) rfl rfl (qa_cons (qe_var (i := 2)) (qa_cons (qe_var (i := 5)) qa_nil)) (len_cons (len_cons len_nil))))
      (qss_cons (qs_set (i := 9) nd (qe_var (i := 6)))
      (qss_cons (qs_if (qt_cmp (op_eqG hr.units) (qe_var (i := 4)) qe_str) (qss_one (qs_set (i := 9) nd (qf (ok_u_law_kind T) tk (hr.mono (by omega)) rfl rfl (qa_cons (qe_var (i := 2)) (qa_cons (qe_var (i := 6)) qa_nil)) (len_cons (len_cons len_nil))))) qss_nil)
      (qss_one (qs_if (qt_w (qw_and (qt_cmp op_isnG (qe_var (i := 8)) qe_non) (qw_and (qt_cmp op_isnG (qe_var (i := 9)) qe_non) (qw_one (qt_cmp (op_neG hr.units) (qe_var (i := 8)) (qe_var (i := 9))))))) (qss_one (qs_ret (qe_tup (qa_cons qe_str (qa_cons (qe_var (i := 7)) qa_nil))))) qss_nil))))))
      (qss_cons (qs_for (ms := L_u_law_due_4) hp rfl (qi_any (qf (ok_u_law_all T 20) tk (hr.mono (by omega)) rfl rfl (qa_cons (qe_var (i := 0)) qa_nil) (len_cons len_nil))) (qg_name nd) (qss_one (qs_if (qt_cmp (op_ninH (hu65 hr)) (qe_var (i := 7)) (qe_var (i := 2))) (qss_one (qs_ret (qe_tup (qa_cons qe_str (qa_cons (qe_subH (hu_of hr) (qe_bm PySem.F.plainAttrs_str PySem.F.slot_str_split PySem.F.type_str_split mt_splitG (qe_var (i := 7)) (qa_cons qe_str qa_nil)) qe_int) qa_nil))))) qss_nil)))
      (qss_one (qs_ret (qe_var (i := 2)))))))))
theorem ok_u_law_due (T : Txt P w K mg) : FnM P w K mg base 43 "_law_due" P_u_law_due m_u_law_due := fnM_mk (N := N_u_law_due) T.d_u_law_due T.a_u_law_due sc_u_law_due (fun _ _ _ _ _ _ us hl => match us, hl with | [_], _ => rfl) (q_u_law_due T)

theorem q_law (T : Txt P w K mg) (cdv : Value) (A : Around) (outer : List Env) (s : Shared) (H : Hp) (E : XK) (hr : Room 47 (A.deeper (envOfC "law" (defScope s_law) s.heap.objs.size (He.ga K "law") cdv))) : QSs (cxOf (L2.CX P w) P w K mg base N_law "law" (defScope s_law) (He.ga K "law") cdv A outer s H E) (fun cls d _ H => E cls d H) (defBody s_law) b_law := by
  have tk := takes_of (X := (cxOf (L2.CX P w) P w K mg base N_law "law" (defScope s_law) (He.ga K "law") cdv A outer s H E)) (E := E) rfl rfl rfl rfl
  have hp := passes_of (X := (cxOf (L2.CX P w) P w K mg base N_law "law" (defScope s_law) (He.ga K "law") cdv A outer s H E)) rfl
  have nd := sc_law.nd
  exact (qss_cons (qs_set (i := 1) nd (qf (ok_u_law_stream T) tk (hr.mono (by omega)) rfl rfl (qa_cons (qe_var (i := 0)) (qa_cons qe_int qa_nil)) (len_cons (len_cons len_nil))))
      (qss_cons (qs_for (ms := L_law_1) hp rfl (qi_any (qe_lst (qa_cons qe_int (qa_cons qe_int (qa_cons qe_int (qa_cons qe_int qa_nil)))))) (qg_name nd) (qss_cons (qs_putD (hu_of hr) (qe_var (i := 2)) (qe_var (i := 1)) qe_str)
      (qss_cons (qs_set (i := 3) nd (qf (ok_u_law_core T 20) tk (hr.mono (by omega)) rfl rfl (qa_cons (qe_var (i := 1)) (qa_cons qe_int qa_nil)) (len_cons (len_cons len_nil))))
      (qss_one (qs_if (qt_cmp (op_neQ hr.units) (qf (ok_u_law_told T) tk (hr.mono (by omega)) rfl rfl (qa_cons (qe_var (i := 3)) qa_nil) (len_cons len_nil)) (qf (ok_u_law_due T) tk (hr.mono (by omega)) rfl rfl (qa_cons (qe_var (i := 3)) qa_nil) (len_cons len_nil))) (qss_one (qs_ret qe_bl)) qss_nil)))))
      (qss_one (qs_ret qe_bl))))
theorem ok_law (T : Txt P w K mg) : FnM P w K mg base 48 "law" P_law m_law := fnM_mk (N := N_law) T.d_law T.a_law sc_law (fun _ _ _ _ _ _ us hl => match us, hl with | [_], _ => rfl) (q_law T)

end

/-! the head: facts, the run -/
def dd_u_law_mix : He.DefD := ⟨("_law_mix", none), "_law_mix", "_law_mix", defArgs s_u_law_mix, defBody s_u_law_mix, defScope s_u_law_mix, [], []⟩
def dd_u_law_stream : He.DefD := ⟨("_law_stream", none), "_law_stream", "_law_stream", defArgs s_u_law_stream, defBody s_u_law_stream, defScope s_u_law_stream, [], []⟩
def dd_u_law_pick : He.DefD := ⟨("_law_pick", none), "_law_pick", "_law_pick", defArgs s_u_law_pick, defBody s_u_law_pick, defScope s_u_law_pick, [], []⟩
def dd_u_law_odd : He.DefD := ⟨("_law_odd", none), "_law_odd", "_law_odd", defArgs s_u_law_odd, defBody s_u_law_odd, defScope s_u_law_odd, [], []⟩
def dd_u_law_basic : He.DefD := ⟨("_law_basic", none), "_law_basic", "_law_basic", defArgs s_u_law_basic, defBody s_u_law_basic, defScope s_u_law_basic, [], []⟩
def dd_u_law_term : He.DefD := ⟨("_law_term", none), "_law_term", "_law_term", defArgs s_u_law_term, defBody s_u_law_term, defScope s_u_law_term, [], []⟩
def dd_u_law_compare : He.DefD := ⟨("_law_compare", none), "_law_compare", "_law_compare", defArgs s_u_law_compare, defBody s_u_law_compare, defScope s_u_law_compare, [], []⟩
def dd_u_law_core : He.DefD := ⟨("_law_core", none), "_law_core", "_law_core", defArgs s_u_law_core, defBody s_u_law_core, defScope s_u_law_core, [], []⟩
def dd_u_add_steps_of_sides : He.DefD := ⟨("_add_steps_of_sides", none), "_add_steps_of_sides", "_add_steps_of_sides", defArgs s_u_add_steps_of_sides, defBody s_u_add_steps_of_sides, defScope s_u_add_steps_of_sides, [], []⟩
def dd_u_add_steps_inside : He.DefD := ⟨("_add_steps_inside", none), "_add_steps_inside", "_add_steps_inside", defArgs s_u_add_steps_inside, defBody s_u_add_steps_inside, defScope s_u_add_steps_inside, [], []⟩
def dd_u_add_steps_of_compare : He.DefD := ⟨("_add_steps_of_compare", none), "_add_steps_of_compare", "_add_steps_of_compare", defArgs s_u_add_steps_of_compare, defBody s_u_add_steps_of_compare, defScope s_u_add_steps_of_compare, [], []⟩
def dd_first_rule_in : He.DefD := ⟨("first_rule_in", none), "first_rule_in", "first_rule_in", defArgs s_first_rule_in, defBody s_first_rule_in, defScope s_first_rule_in, [], []⟩
def dd_rules_in : He.DefD := ⟨("rules_in", none), "rules_in", "rules_in", defArgs s_rules_in, defBody s_rules_in, defScope s_rules_in, [], []⟩
def dd_u_add_steps : He.DefD := ⟨("_add_steps", none), "_add_steps", "_add_steps", defArgs s_u_add_steps, defBody s_u_add_steps, defScope s_u_add_steps, [], []⟩
def dd_u_give : He.DefD := ⟨("_give", none), "_give", "_give", defArgs s_u_give, defBody s_u_give, defScope s_u_give, [], []⟩
def dd_u_kind : He.DefD := ⟨("_kind", none), "_kind", "_kind", defArgs s_u_kind, defBody s_u_kind, defScope s_u_kind, [], []⟩
def dd_u_learn : He.DefD := ⟨("_learn", none), "_learn", "_learn", defArgs s_u_learn, defBody s_u_learn, defScope s_u_learn, [], []⟩
def dd_u_check : He.DefD := ⟨("_check", none), "_check", "_check", defArgs s_u_check, defBody s_u_check, defScope s_u_check, [], []⟩
def dd_u_check_known : He.DefD := ⟨("_check_known", none), "_check_known", "_check_known", defArgs s_u_check_known, defBody s_u_check_known, defScope s_u_check_known, [], []⟩
def dd_kinds_of : He.DefD := ⟨("kinds_of", none), "kinds_of", "kinds_of", defArgs s_kinds_of, defBody s_kinds_of, defScope s_kinds_of, [], []⟩
def dd_u_law_told : He.DefD := ⟨("_law_told", none), "_law_told", "_law_told", defArgs s_u_law_told, defBody s_u_law_told, defScope s_u_law_told, [], []⟩
def dd_u_law_term_steps : He.DefD := ⟨("_law_term_steps", none), "_law_term_steps", "_law_term_steps", defArgs s_u_law_term_steps, defBody s_u_law_term_steps, defScope s_u_law_term_steps, [], []⟩
def dd_u_law_steps : He.DefD := ⟨("_law_steps", none), "_law_steps", "_law_steps", defArgs s_u_law_steps, defBody s_u_law_steps, defScope s_u_law_steps, [], []⟩
def dd_u_law_learn : He.DefD := ⟨("_law_learn", none), "_law_learn", "_law_learn", defArgs s_u_law_learn, defBody s_u_law_learn, defScope s_u_law_learn, [], []⟩
def dd_u_law_kind : He.DefD := ⟨("_law_kind", none), "_law_kind", "_law_kind", defArgs s_u_law_kind, defBody s_u_law_kind, defScope s_u_law_kind, [], []⟩
def dd_u_law_term_names : He.DefD := ⟨("_law_term_names", none), "_law_term_names", "_law_term_names", defArgs s_u_law_term_names, defBody s_u_law_term_names, defScope s_u_law_term_names, [], []⟩
def dd_u_law_all : He.DefD := ⟨("_law_all", none), "_law_all", "_law_all", defArgs s_u_law_all, defBody s_u_law_all, defScope s_u_law_all, [], []⟩
def dd_u_law_due : He.DefD := ⟨("_law_due", none), "_law_due", "_law_due", defArgs s_u_law_due, defBody s_u_law_due, defScope s_u_law_due, [], []⟩
def dd_law : He.DefD := ⟨("law", none), "law", "law", defArgs s_law, defBody s_law, defScope s_law, [], []⟩
def ff : List He.DefD := [dd_u_law_mix, dd_u_law_stream, dd_u_law_pick, dd_u_law_odd, dd_u_law_basic, dd_u_law_term, dd_u_law_compare, dd_u_law_core, dd_u_add_steps_of_sides, dd_u_add_steps_inside, dd_u_add_steps_of_compare, dd_first_rule_in, dd_rules_in, dd_u_add_steps, dd_u_give, dd_u_kind, dd_u_learn, dd_u_check, dd_u_check_known, dd_kinds_of, dd_u_law_told, dd_u_law_term_steps, dd_u_law_steps, dd_u_law_learn, dd_u_law_kind, dd_u_law_term_names, dd_u_law_all, dd_u_law_due, dd_law]
def fa : List He.Fa := [.glo "_law_mix", .glo "_law_stream", .glo "_law_pick", .glo "_law_odd", .glo "_law_basic", .glo "_law_term", .glo "_law_compare", .glo "_law_core", .glo "_add_steps_of_sides", .glo "_add_steps_inside", .glo "_add_steps_of_compare", .glo "first_rule_in", .glo "rules_in", .glo "_add_steps", .glo "_give", .glo "_kind", .glo "_learn", .glo "_check", .glo "_check_known", .glo "kinds_of", .glo "_law_told", .glo "_law_term_steps", .glo "_law_steps", .glo "_law_learn", .glo "_law_kind", .glo "_law_term_names", .glo "_law_all", .glo "_law_due", .glo "law", .free "range", .free "min", .free "len", .free "int", .free "tuple", .free "zip", .free "isinstance", .free "super", .glo "NoKind", .glo "WatchError", .glo "RuleError", .glo "WrongKind", .glo "SIGNS_OF_WORDS"]
def dts : List (Str × List (Str × D)) := [("SIGNS_OF_WORDS", c_SIGNS_OF_WORDS)]
def ts : List He.Tab := [(fun K => He.ga K "SIGNS_OF_WORDS", c_SIGNS_OF_WORDS.map (·.1))]
def fc : List (Str × D) := [("OPERATORS_WITH_LIMITS", c_OPERATORS_WITH_LIMITS), ("PREFIXES_WITH_LIMITS", c_PREFIXES_WITH_LIMITS), ("NUMBER", c_NUMBER), ("WORD", c_WORD)]
def exB (K : PySem.W.Frag) : Bool := fc.all (constB K) && (initB K fileT "RuleError" && ((["WrongKind", "NoKind"] : List Str).all (errB K "RuleError" ["word"]) && (subL.all (subB K) && dts.all (dvB K))))
/-- the names of the top but the law's -/
def loose : List Str := ("WatchError" : Str) :: ("RuleError" : Str) :: ("WrongKind" : Str) :: ("NoKind" : Str) :: ("OPERATORS_WITH_LIMITS" : Str) :: ("PREFIXES_WITH_LIMITS" : Str) :: ("SIGNS_OF_WORDS" : Str) :: ("rules_in" : Str) :: ("first_rule_in" : Str) :: ("NUMBER" : Str) :: ("WORD" : Str) :: ("kinds_of" : Str) :: ("_add_steps" : Str) :: ("_add_steps_of_compare" : Str) :: ("_add_steps_of_sides" : Str) :: ("_add_steps_inside" : Str) :: ("_learn" : Str) :: ("_give" : Str) :: ("_check" : Str) :: ("_check_known" : Str) :: ("_kind" : Str) :: ("_law_mix" : Str) :: ("_law_stream" : Str) :: ("_law_pick" : Str) :: ("_law_odd" : Str) :: ("_law_basic" : Str) :: ("_law_term" : Str) :: ("_law_compare" : Str) :: ("_law_core" : Str) :: ("_law_steps" : Str) :: ("_law_term_steps" : Str) :: ("_law_kind" : Str) :: ("_law_learn" : Str) :: ("_law_due" : Str) :: ("_law_all" : Str) :: ("_law_term_names" : Str) :: ("_law_told" : Str) :: []
def lawAt : Nat := 41
theorem txt {P : Program} {w : World} {K : PySem.W.Frag} {h : Heap} {mg : Str → Option Value} (pf : ((P.main.file : Str) == fileT) = true) (ps : (P.main.scope.names.lookup ("super" : Str)).isSome = false) (X : K.In h) (G : h.Ns mainGlobals mg) (c : He.SaysX fa ff ts [] exB w h K) (iw : fiW K "RuleError" = w_init) : Txt P w K mg := by
  have m1 := (Bool.and_eq_true_iff.mp c.more).1
  have m2 := Bool.and_eq_true_iff.mp (Bool.and_eq_true_iff.mp c.more).2
  have m3 := Bool.and_eq_true_iff.mp m2.2
  have a_NoKind : mg "NoKind" = some (.ref (He.ga K "NoKind")) := He.glo_ok X G (c.t.d.fact 37 (f := .glo "NoKind") rfl)
  have a_WatchError : mg "WatchError" = some (.ref (He.ga K "WatchError")) := He.glo_ok X G (c.t.d.fact 38 (f := .glo "WatchError") rfl)
  have a_RuleError : mg "RuleError" = some (.ref (He.ga K "RuleError")) := He.glo_ok X G (c.t.d.fact 39 (f := .glo "RuleError") rfl)
  have a_WrongKind : mg "WrongKind" = some (.ref (He.ga K "WrongKind")) := He.glo_ok X G (c.t.d.fact 40 (f := .glo "WrongKind") rfl)
  exact ⟨pf,
  ps,
  iw,
  m2.1,
  subK_of (Bool.and_eq_true_iff.mp m3.2).1 (by intro q hq; simp only [subL, List.mem_cons, List.not_mem_nil, or_false] at hq; rcases hq with rfl | rfl | rfl | rfl | rfl | rfl | rfl | rfl <;> exact ⟨by assumption, by assumption⟩),
  errB_ok (List.all_eq_true.mp m3.1 "WrongKind" (by simp)),
  errB_ok (List.all_eq_true.mp m3.1 "NoKind" (by simp)),
  a_NoKind,
  a_WatchError,
  a_RuleError,
  a_WrongKind,
  by obtain ⟨fd, F⟩ := c.t.d.def_ 0 (d := dd_u_law_mix) rfl; exact ⟨fd, F⟩,
  He.glo_ok X G (c.t.d.fact 0 (f := .glo "_law_mix") rfl),
  by obtain ⟨fd, F⟩ := c.t.d.def_ 1 (d := dd_u_law_stream) rfl; exact ⟨fd, F⟩,
  He.glo_ok X G (c.t.d.fact 1 (f := .glo "_law_stream") rfl),
  by obtain ⟨fd, F⟩ := c.t.d.def_ 2 (d := dd_u_law_pick) rfl; exact ⟨fd, F⟩,
  He.glo_ok X G (c.t.d.fact 2 (f := .glo "_law_pick") rfl),
  by obtain ⟨fd, F⟩ := c.t.d.def_ 3 (d := dd_u_law_odd) rfl; exact ⟨fd, F⟩,
  He.glo_ok X G (c.t.d.fact 3 (f := .glo "_law_odd") rfl),
  by obtain ⟨fd, F⟩ := c.t.d.def_ 4 (d := dd_u_law_basic) rfl; exact ⟨fd, F⟩,
  He.glo_ok X G (c.t.d.fact 4 (f := .glo "_law_basic") rfl),
  by obtain ⟨fd, F⟩ := c.t.d.def_ 5 (d := dd_u_law_term) rfl; exact ⟨fd, F⟩,
  He.glo_ok X G (c.t.d.fact 5 (f := .glo "_law_term") rfl),
  by obtain ⟨fd, F⟩ := c.t.d.def_ 6 (d := dd_u_law_compare) rfl; exact ⟨fd, F⟩,
  He.glo_ok X G (c.t.d.fact 6 (f := .glo "_law_compare") rfl),
  by obtain ⟨fd, F⟩ := c.t.d.def_ 7 (d := dd_u_law_core) rfl; exact ⟨fd, F⟩,
  He.glo_ok X G (c.t.d.fact 7 (f := .glo "_law_core") rfl),
  by obtain ⟨fd, F⟩ := c.t.d.def_ 8 (d := dd_u_add_steps_of_sides) rfl; exact ⟨fd, F⟩,
  He.glo_ok X G (c.t.d.fact 8 (f := .glo "_add_steps_of_sides") rfl),
  by obtain ⟨fd, F⟩ := c.t.d.def_ 9 (d := dd_u_add_steps_inside) rfl; exact ⟨fd, F⟩,
  He.glo_ok X G (c.t.d.fact 9 (f := .glo "_add_steps_inside") rfl),
  by obtain ⟨fd, F⟩ := c.t.d.def_ 10 (d := dd_u_add_steps_of_compare) rfl; exact ⟨fd, F⟩,
  He.glo_ok X G (c.t.d.fact 10 (f := .glo "_add_steps_of_compare") rfl),
  by obtain ⟨fd, F⟩ := c.t.d.def_ 11 (d := dd_first_rule_in) rfl; exact ⟨fd, F⟩,
  He.glo_ok X G (c.t.d.fact 11 (f := .glo "first_rule_in") rfl),
  by obtain ⟨fd, F⟩ := c.t.d.def_ 12 (d := dd_rules_in) rfl; exact ⟨fd, F⟩,
  He.glo_ok X G (c.t.d.fact 12 (f := .glo "rules_in") rfl),
  by obtain ⟨fd, F⟩ := c.t.d.def_ 13 (d := dd_u_add_steps) rfl; exact ⟨fd, F⟩,
  He.glo_ok X G (c.t.d.fact 13 (f := .glo "_add_steps") rfl),
  by obtain ⟨fd, F⟩ := c.t.d.def_ 14 (d := dd_u_give) rfl; exact ⟨fd, F⟩,
  He.glo_ok X G (c.t.d.fact 14 (f := .glo "_give") rfl),
  by obtain ⟨fd, F⟩ := c.t.d.def_ 15 (d := dd_u_kind) rfl; exact ⟨fd, F⟩,
  He.glo_ok X G (c.t.d.fact 15 (f := .glo "_kind") rfl),
  by obtain ⟨fd, F⟩ := c.t.d.def_ 16 (d := dd_u_learn) rfl; exact ⟨fd, F⟩,
  He.glo_ok X G (c.t.d.fact 16 (f := .glo "_learn") rfl),
  by obtain ⟨fd, F⟩ := c.t.d.def_ 17 (d := dd_u_check) rfl; exact ⟨fd, F⟩,
  He.glo_ok X G (c.t.d.fact 17 (f := .glo "_check") rfl),
  by obtain ⟨fd, F⟩ := c.t.d.def_ 18 (d := dd_u_check_known) rfl; exact ⟨fd, F⟩,
  He.glo_ok X G (c.t.d.fact 18 (f := .glo "_check_known") rfl),
  by obtain ⟨fd, F⟩ := c.t.d.def_ 19 (d := dd_kinds_of) rfl; exact ⟨fd, F⟩,
  He.glo_ok X G (c.t.d.fact 19 (f := .glo "kinds_of") rfl),
  by obtain ⟨fd, F⟩ := c.t.d.def_ 20 (d := dd_u_law_told) rfl; exact ⟨fd, F⟩,
  He.glo_ok X G (c.t.d.fact 20 (f := .glo "_law_told") rfl),
  by obtain ⟨fd, F⟩ := c.t.d.def_ 21 (d := dd_u_law_term_steps) rfl; exact ⟨fd, F⟩,
  He.glo_ok X G (c.t.d.fact 21 (f := .glo "_law_term_steps") rfl),
  by obtain ⟨fd, F⟩ := c.t.d.def_ 22 (d := dd_u_law_steps) rfl; exact ⟨fd, F⟩,
  He.glo_ok X G (c.t.d.fact 22 (f := .glo "_law_steps") rfl),
  by obtain ⟨fd, F⟩ := c.t.d.def_ 23 (d := dd_u_law_learn) rfl; exact ⟨fd, F⟩,
  He.glo_ok X G (c.t.d.fact 23 (f := .glo "_law_learn") rfl),
  by obtain ⟨fd, F⟩ := c.t.d.def_ 24 (d := dd_u_law_kind) rfl; exact ⟨fd, F⟩,
  He.glo_ok X G (c.t.d.fact 24 (f := .glo "_law_kind") rfl),
  by obtain ⟨fd, F⟩ := c.t.d.def_ 25 (d := dd_u_law_term_names) rfl; exact ⟨fd, F⟩,
  He.glo_ok X G (c.t.d.fact 25 (f := .glo "_law_term_names") rfl),
  by obtain ⟨fd, F⟩ := c.t.d.def_ 26 (d := dd_u_law_all) rfl; exact ⟨fd, F⟩,
  He.glo_ok X G (c.t.d.fact 26 (f := .glo "_law_all") rfl),
  by obtain ⟨fd, F⟩ := c.t.d.def_ 27 (d := dd_u_law_due) rfl; exact ⟨fd, F⟩,
  He.glo_ok X G (c.t.d.fact 27 (f := .glo "_law_due") rfl),
  by obtain ⟨fd, F⟩ := c.t.d.def_ 28 (d := dd_law) rfl; exact ⟨fd, F⟩,
  He.glo_ok X G (c.t.d.fact 28 (f := .glo "law") rfl),
  constB_ok X G (q := ("OPERATORS_WITH_LIMITS", c_OPERATORS_WITH_LIMITS)) (List.all_eq_true.mp m1 ("OPERATORS_WITH_LIMITS", c_OPERATORS_WITH_LIMITS) (by simp [fc])),
  constB_ok X G (q := ("PREFIXES_WITH_LIMITS", c_PREFIXES_WITH_LIMITS)) (List.all_eq_true.mp m1 ("PREFIXES_WITH_LIMITS", c_PREFIXES_WITH_LIMITS) (by simp [fc])),
  constB_ok X G (q := ("NUMBER", c_NUMBER)) (List.all_eq_true.mp m1 ("NUMBER", c_NUMBER) (by simp [fc])),
  constB_ok X G (q := ("WORD", c_WORD)) (List.all_eq_true.mp m1 ("WORD", c_WORD) (by simp [fc])),
  gdict_ok (He.glo_ok X G (c.t.d.fact 41 (f := .glo "SIGNS_OF_WORDS") rfl)) (tab_ok c.t (t := (fun K => He.ga K "SIGNS_OF_WORDS", c_SIGNS_OF_WORDS.map (·.1))) (by simp [ts])) (List.all_eq_true.mp (Bool.and_eq_true_iff.mp m3.2).2 ("SIGNS_OF_WORDS", c_SIGNS_OF_WORDS) (by simp [dts])),
  He.free_ok X G (c.t.d.fact 29 (f := .free "range") rfl),
  He.free_ok X G (c.t.d.fact 30 (f := .free "min") rfl),
  He.free_ok X G (c.t.d.fact 31 (f := .free "len") rfl),
  He.free_ok X G (c.t.d.fact 32 (f := .free "int") rfl),
  He.free_ok X G (c.t.d.fact 33 (f := .free "tuple") rfl),
  He.free_ok X G (c.t.d.fact 34 (f := .free "zip") rfl),
  He.free_ok X G (c.t.d.fact 35 (f := .free "isinstance") rfl),
  He.free_ok X G (c.t.d.fact 36 (f := .free "super") rfl)⟩
def lawLev : Nat := 48
end K13
end
section
set_option Elab.async false
set_option linter.all false
set_option maxRecDepth 100000
set_option maxHeartbeats 0
namespace K13
open PySem PySem.Spec PyProof.Rows L2 PM
abbrev R : PySem.W.OpenRow := PySem.W.OpenLaw.row PySem.Challenge.rw_sheetwatch_k13_kinds_of_names
abbrev hk : PySem.W.Hook := hookZ 4 fa ff ts exB "RuleError" w_init
def ob (s : PySem.W.SharedT) : AlY := obsZ 4 fa ff ts exB "RuleError" (HandSHeadRun.getT s)
theorem ob_eq (s : PySem.W.SharedT) : ob s = hk.obs s.abs := obsZ_eq (HandSHeadRun.getT_eq s)
theorem runB (b : Bool) (w : World) : HandSHeadRun.RunEq R (PySem.W.view R.prog [lawAt]) hk ob 4000 loose (w.withFollow "special-get-raises" b) := by
  intro os
  cases b <;> kernel_rfl
theorem run (w : World) : HandSHeadRun.RunEq R (PySem.W.view R.prog [lawAt]) hk ob 4000 loose w := PySem.W.byRow2 "special-get-raises" (P := fun w => HandSHeadRun.RunEq R (PySem.W.view R.prog [lawAt]) hk ob 4000 loose w) (runB false) (runB true) w
end K13
end
section
set_option Elab.async false
set_option linter.all false
set_option maxRecDepth 100000
set_option maxHeartbeats 0
open PySem PySem.W PySem.Calls PyProof.Rows
theorem K13.fin (main : ∀ ns : List Int, ns.length ≤ 63 → (∀ z ∈ ns, Builtin.Int.intBits z ≤ 1048576) → ∃ h', K13.m_law [.ref 0] [.rdl (ns.map PM.D.int)] = .ok (.bl true) h') : PySem.Challenge.rw_sheetwatch_k13_kinds_of_names.Holds := by
  w_on; o_law
  refine HandSHeadRun.head_any (r := K13.R) (q := view K13.R.prog [K13.lawAt]) (H := K13.hk) (ob := K13.ob) (M := 4000) (loose := K13.loose) (d := HandSHeadRun.topDef K13.R.prog K13.lawAt) (kwd := []) K13.ob_eq
    (by kernel_rfl) (fun s => by kernel_rfl) K13.run (by kernel_rfl) (by kernel_rfl) (by kernel_rfl) (by rfl) (by first | assumption | decide +kernel) (by decide +kernel) ⟨rfl, rfl, rfl, rfl, rfl, by decide +kernel⟩ ?hw ?hc
  case hw => w_witness2
  case hc =>
    refine PM.walk_pm (l := PySem.Challenge.rw_sheetwatch_k13_kinds_of_names) (k := K13.lawLev) (m := K13.m_law) rfl (by kernel_rfl) ⟨rfl, by decide, by decide⟩ ?F main
    intro w mg fa h Y G hmg0
    obtain ⟨K, KX, c, iw⟩ := Y
    have hmg : mg ("law" : PySem.Str) = some (.ref fa) := by
      have e : (HandSHeadRun.topDef K13.R.prog K13.lawAt).name = ("law" : PySem.Str) := by kernel_rfl
      rw [← e]
      exact hmg0
    have T := K13.txt (P := PySem.Challenge.rw_sheetwatch_k13_kinds_of_names.prog) (by kernel_rfl) (by kernel_rfl) KX G c iw
    obtain ⟨fd, F⟩ := T.d_law
    have e := hmg.symm.trans T.a_law
    cases e
    exact ⟨K, fd, KX, fun s v => L2.FunD.bindsA (ps := ["script"]) F (fun _ _ _ _ _ _ us hl => match us, hl with | [_], _ => rfl) s [v] rfl, fun base => PM.fnOk_mk (N := K13.N_law) F K13.sc_law (K13.q_law T)⟩
end
theorem PySem.Challenge.cw_sheetwatch_k13_kinds_of_names_holds : PySem.Challenge.rw_sheetwatch_k13_kinds_of_names.Holds := by
  exact K13.fin fun ns h _ => K13.main ns h
