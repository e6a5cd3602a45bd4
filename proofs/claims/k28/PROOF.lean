import PyProof.Rows.All
import Wide.All
import OpenK.AllK
import Wide.FinOn
import HandS.ForMost
import HandS.ExcInit
import HandS.ExcField
import HandS.ExcIs
import HandS.IsInst
import HandS.Deep
import HandS.Zip
import HandS.TupAny
import HandS.Style
import HandS.More
import HandS.StrMore
import KE.KListMore
import PyProof.P3In
import PyProof.StrOps2
import PyProof.ReprRoads
import PyProof.FactsAll.dict_1
import KE.SortData
import HandS.EndBits
import PyProof.NeKinds
import HandS.Small
import KE.KDictPairs
import HandS.DeepEq
import PyProof.StrLawsRepr
import PyProof.ReprLen
import KE.GoesZip
import KE.GoesMore
import PySem.Challenge.RW_besidealone_k28_books_and_what_makes_the
set_option Elab.async false
set_option linter.all false
set_option maxRecDepth 100000
set_option maxHeartbeats 4000000
namespace Fe
open PySem PySem.Spec PyProof.Rows L2

/-! ## abstract data: values without addresses, a store of what may change -/
inductive D where
  | non | bl (b : Bool) | int (i : Int) | str (x : Str)
  | tup (xs : List D) | ptp (xs : List D) | rol (xs : List D) | loc (l : Nat) | ty (n : String)
  | exc (n f : Str) (xs : List D)

inductive Cell where
  | lst (xs : List D) | dct (kvs : List (Key × D)) | dtt (kvs : List (List Key × D))
abbrev Sto := List Cell
abbrev DEnv := List (Option D)

mutual
def D.same : D → D → Bool
  | .non, .non => true
  | .bl a, .bl b => a == b
  | .int i, .int j => decide (i = j)
  | .str x, .str y => decide (x = y)
  | .tup xs, .tup ys => D.sameL xs ys
  | .ptp xs, .ptp ys => D.sameL xs ys
  | .rol xs, .rol ys => D.sameL xs ys
  | .loc a, .loc b => a == b
  | .ty a, .ty b => a == b
  | .exc n f xs, .exc n' f' ys => decide (n = n') && decide (f = f') && D.sameL xs ys
  | _, _ => false
def D.sameL : List D → List D → Bool
  | [], [] => true
  | x :: xs, y :: ys => D.same x y && D.sameL xs ys
  | _, _ => false
end
mutual
theorem D.same_eq : ∀ (x y : D), D.same x y = true → x = y
  | .non, y, h => by cases y <;> simp [D.same] at h ⊢
  | .bl a, y, h => by cases y <;> simp [D.same] at h ⊢; exact h
  | .int a, y, h => by cases y <;> simp [D.same] at h ⊢; exact h
  | .str a, y, h => by cases y <;> simp [D.same] at h ⊢; exact h
  | .loc a, y, h => by cases y <;> simp [D.same] at h ⊢; exact h
  | .ty a, y, h => by cases y <;> simp [D.same] at h ⊢; exact h
  | .tup xs, y, h => by
    cases y <;> simp [D.same] at h ⊢
    exact D.sameL_eq xs _ h
  | .rol xs, y, h => by
    cases y <;> simp [D.same] at h ⊢
    exact D.sameL_eq xs _ h
  | .ptp xs, y, h => by
    cases y <;> simp [D.same] at h ⊢
    exact D.sameL_eq xs _ h
  | .exc n f xs, y, h => by
    cases y <;> simp [D.same] at h ⊢
    exact ⟨h.1.1, h.1.2, D.sameL_eq xs _ h.2⟩
theorem D.sameL_eq : ∀ (xs ys : List D), D.sameL xs ys = true → xs = ys
  | [], ys, h => by cases ys <;> simp [D.sameL] at h ⊢
  | x :: xs, ys, h => by
    cases ys with
    | nil => simp [D.sameL] at h
    | cons y ys =>
      simp [D.sameL] at h
      rw [D.same_eq x y h.1, D.sameL_eq xs ys h.2]
end
mutual
theorem D.same_refl : ∀ x : D, D.same x x = true
  | .non => by simp [D.same]
  | .bl a => by simp [D.same]
  | .int a => by simp [D.same]
  | .str a => by simp [D.same]
  | .loc a => by simp [D.same]
  | .ty a => by simp [D.same]
  | .tup xs => by simp [D.same]; exact D.sameL_refl xs
  | .rol xs => by simp [D.same]; exact D.sameL_refl xs
  | .ptp xs => by simp [D.same]; exact D.sameL_refl xs
  | .exc n f xs => by simp [D.same]; exact D.sameL_refl xs
theorem D.sameL_refl : ∀ xs : List D, D.sameL xs xs = true
  | [] => by simp [D.sameL]
  | x :: xs => by simp [D.sameL]; exact ⟨D.same_refl x, D.sameL_refl xs⟩
end

/-! ## how the heap bears it -/
def RoL (K : PySem.W.Frag) (H : Hp) (a : Addr) (xs : List V) : Prop :=
  (∃ o, H a = some (.frz o (.lst xs))) ∨ (∀ H' : Hp, SqL K H' a xs)

/-- a tuple of whose object more is known: nothing hangs on it, so it has no names of its own -/
structure PlainT (o : Obj) : Prop where
  cls : o.cls = .type "tuple"
  dict : o.dict = none
  seq : ∃ its n, o.data = .seq its n
/-- a tuple on whose object nothing hangs: locked in this run, or of the boot -/
def PtAt (K : PySem.W.Frag) (H : Hp) (a : Addr) (vs : List V) : Prop := (∃ o, H a = some (.frz o (.tup vs)) ∧ PlainT o) ∨ ∃ o its n, K.lookup a = some o ∧ o.cls = .type "tuple" ∧ o.dict = none ∧ o.data = .seq its n ∧ its.size ≤ sizeLine ∧ Vals vs its.toList
theorem PtAt.sq {K : PySem.W.Frag} {H : Hp} {a : Addr} {vs : List V} (h : PtAt K H a vs) : SqT K H a vs := by
  rcases h with ⟨o, h, _⟩ | ⟨o, its, n, h, hc, hd, hi, hz, r⟩
  · exact .inl (.inr ⟨o, h⟩)
  · exact .inr ⟨o, its, n, h, hc, hi, hz, r⟩
theorem PtAt.mono {K : PySem.W.Frag} {H H' : Hp} {a : Addr} {vs : List V} (fz : ∀ (a : Addr) (o : Obj) (u : HO), H a = some (.frz o u) → H' a = some (.frz o u)) (h : PtAt K H a vs) : PtAt K H' a vs := by
  rcases h with ⟨o, h, pl⟩ | h
  · exact .inl ⟨o, fz _ _ _ h, pl⟩
  · exact .inr h
/-- the class of a name; an exception's object; a thing of which only its object is told -/
def ClsAt (K : PySem.W.Frag) (n : Str) (C : Addr) : Prop := PySem.W.nsIn K mainGlobals n = some (some (.ref C))
structure ExOb (C : Addr) (d : Option Addr) (oe : Obj) : Prop where
  cls : oe.cls = .ref C
  dict : oe.dict = d
  data : ∃ vs, oe.data = .fields vs
def exq (a : Addr) : HO := .ext fun h => ∃ o, h.get? a = some o
/-- an exception of a class of one's own that stands, with no field or with one -/
def ExAt (K : PySem.W.Frag) (H : Hp) (n f : Str) (a : Addr) (vs : List V) : Prop := ∃ (C : Addr) (oe : Obj), ClsAt K n C ∧ H a = some (.frz oe (exq a)) ∧ ((vs = [] ∧ ExOb C none oe) ∨ ∃ (v : V) (dx : Addr) (od : Obj), vs = [v] ∧ ExOb C (some dx) oe ∧ H dx = some (.frz od (exd dx [(f, v)])))
theorem ExAt.mono {K : PySem.W.Frag} {H H' : Hp} {n f : Str} {a : Addr} {vs : List V} (fz : ∀ (a : Addr) (o : Obj) (u : HO), H a = some (.frz o u) → H' a = some (.frz o u)) (h : ExAt K H n f a vs) : ExAt K H' n f a vs := by
  obtain ⟨C, oe, c, e, h⟩ := h
  refine ⟨C, oe, c, fz _ _ _ e, ?_⟩
  rcases h with ⟨e1, e2⟩ | ⟨v, dx, od, e1, e2, e3⟩
  · exact .inl ⟨e1, e2⟩
  · exact .inr ⟨v, dx, od, e1, e2, fz _ _ _ e3⟩
mutual
inductive Rp (K : PySem.W.Frag) (m : List Addr) (H : Hp) : D → V → Prop
  | non : Rp K m H .non .non
  | bl (b : Bool) : Rp K m H (.bl b) (.bl b)
  | int (i : Int) : Rp K m H (.int i) (.int i)
  | str (x : Str) : Rp K m H (.str x) (.str x)
  | tup {xs : List D} {a : Addr} {vs : List V} : H a = some (.tup vs) → RpL K m H xs vs → Rp K m H (.tup xs) (.ref a)
  | ptp {xs : List D} {a : Addr} {vs : List V} : PtAt K H a vs → RpL K m H xs vs → Rp K m H (.ptp xs) (.ref a)
  | rol {xs : List D} {a : Addr} {vs : List V} : RoL K H a vs → RpL K m H xs vs → Rp K m H (.rol xs) (.ref a)
  | loc {l : Nat} {a : Addr} : m[l]? = some a → Rp K m H (.loc l) (.ref a)
  | ty (n : String) : Rp K m H (.ty n) (.ty n)
  | exc {n f : Str} {xs : List D} {vs : List V} {a : Addr} : ExAt K H n f a vs → RpL K m H xs vs → Rp K m H (.exc n f xs) (.ref a)
inductive RpL (K : PySem.W.Frag) (m : List Addr) (H : Hp) : List D → List V → Prop
  | nil : RpL K m H [] []
  | cons {d : D} {v : V} {ds : List D} {vs : List V} : Rp K m H d v → RpL K m H ds vs → RpL K m H (d :: ds) (v :: vs)
end

/-- what goes on being so: places told, tuples, locked things, and all that is no cell; a new cell's place was free -/
structure Le (m : List Addr) (H : Hp) (m' : List Addr) (H' : Hp) : Prop where
  pre : ∀ (l : Nat) (a : Addr), m[l]? = some a → m'[l]? = some a
  tup : ∀ (a : Addr) (xs : List V), H a = some (.tup xs) → H' a = some (.tup xs)
  frz : ∀ (a : Addr) (o : Obj) (u : HO), H a = some (.frz o u) → H' a = some (.frz o u)
  oth : ∀ (a : Addr) (o : HO), H a = some o → a ∉ m → H' a = some o
  fresh : ∀ (a : Addr), a ∈ m' → a ∉ m → H a = none
theorem Le.refl {m : List Addr} {H : Hp} : Le m H m H := ⟨fun _ _ h => h, fun _ _ h => h, fun _ _ _ h => h, fun _ _ h _ => h, fun _ h n => absurd h n⟩
theorem Le.trans {m1 m2 m3 : List Addr} {H1 H2 H3 : Hp} (a : Le m1 H1 m2 H2) (b : Le m2 H2 m3 H3) : Le m1 H1 m3 H3 := by
  refine ⟨fun l x h => b.pre l x (a.pre l x h), fun x xs h => b.tup x xs (a.tup x xs h), fun x o u h => b.frz x o u (a.frz x o u h), fun x o h n => ?_, fun x h n => ?_⟩
  · refine b.oth x o (a.oth x o h n) fun z => ?_
    have q := a.fresh x z n
    rw [h] at q; cases q
  · by_cases h2 : x ∈ m2
    · exact a.fresh x h2 n
    · have q := b.fresh x h h2
      cases e : H1 x with
      | none => rfl
      | some o => rw [a.oth x o e n] at q; cases q
theorem Le.new {m : List Addr} {H : Hp} {p : Addr} {o : HO} (h : H p = none) : Le m H m (upd H p o) :=
  ⟨fun _ _ h => h, fun a xs e => by rw [upd_ne (ne_of_none e h)]; exact e, fun a o u e => by rw [upd_ne (ne_of_none e h)]; exact e, fun a o e _ => by rw [upd_ne (ne_of_none e h)]; exact e, fun _ h n => absurd h n⟩
theorem Le.newC {m : List Addr} {H : Hp} {p : Addr} {o : HO} (h : H p = none) : Le m H (m ++ [p]) (upd H p o) := by
  refine ⟨fun l a h => by rw [List.getElem?_append_left (List.getElem?_eq_some_iff.mp h).1]; exact h, (Le.new (m := m) h).tup, (Le.new (m := m) h).frz, (Le.new (m := m) h).oth, fun a ha n => ?_⟩
  rcases List.mem_append.mp ha with z | z
  · exact absurd z n
  · have e : a = p := by simpa using z
    rw [e]; exact h

section
variable {K : PySem.W.Frag} {m m' : List Addr} {H H' : Hp}
theorem SqT.mono (le : Le m H m' H') {a : Addr} {vs : List V} (h : SqT K H a vs) : SqT K H' a vs := by
  rcases h with h | h
  · rcases h with h | ⟨o, h⟩
    · exact .inl (.inl (le.tup _ _ h))
    · exact .inl (.inr ⟨o, le.frz _ _ _ h⟩)
  · exact .inr h
theorem RoL.mono (le : Le m H m' H') {a : Addr} {vs : List V} (h : RoL K H a vs) : RoL K H' a vs := by
  rcases h with ⟨o, h⟩ | h
  · exact .inl ⟨o, le.frz _ _ _ h⟩
  · exact .inr h
theorem RoL.sq {a : Addr} {vs : List V} (h : RoL K H a vs) : SqL K H a vs := by
  rcases h with ⟨o, h⟩ | h
  · exact .inl (.inr ⟨o, h⟩)
  · exact h H
mutual
theorem Rp.mono (le : Le m H m' H') : ∀ (d : D) (v : V), Rp K m H d v → Rp K m' H' d v
  | _, _, .non => .non
  | _, _, .bl b => .bl b
  | _, _, .int i => .int i
  | _, _, .str x => .str x
  | _, _, .tup (xs := xs) (vs := vs) h r => .tup (le.tup _ _ h) (RpL.mono le xs vs r)
  | _, _, .ptp (xs := xs) (vs := vs) h r => .ptp (h.mono le.frz) (RpL.mono le xs vs r)
  | _, _, .rol (xs := xs) (vs := vs) h r => .rol (RoL.mono le h) (RpL.mono le xs vs r)
  | _, _, .loc h => .loc (le.pre _ _ h)
  | _, _, .ty n => .ty n
  | _, _, .exc (xs := xs) (vs := vs) h r => .exc (h.mono le.frz) (RpL.mono le xs vs r)
theorem RpL.mono (le : Le m H m' H') : ∀ (ds : List D) (vs : List V), RpL K m H ds vs → RpL K m' H' ds vs
  | _, _, .nil => .nil
  | _, _, .cons r t => .cons (Rp.mono le _ _ r) (RpL.mono le _ _ t)
end
theorem RpL.length : ∀ {ds : List D} {vs : List V}, RpL K m H ds vs → ds.length = vs.length
  | _, _, .nil => rfl
  | _, _, .cons _ t => by rw [List.length_cons, List.length_cons, RpL.length t]
theorem RpL.get : ∀ {ds : List D} {vs : List V} {i : Nat} {d : D}, RpL K m H ds vs → ds[i]? = some d → ∃ v, vs[i]? = some v ∧ Rp K m H d v
  | _, _, _, _, .nil, e => by simp at e
  | _, _, 0, _, .cons r _, e => by simp at e; subst e; exact ⟨_, rfl, r⟩
  | _, _, i + 1, d, .cons _ t, e => by
    obtain ⟨v, h1, h2⟩ := RpL.get (i := i) (d := d) t (by simpa using e)
    exact ⟨v, by simpa using h1, h2⟩
theorem RpL.app : ∀ {ds es : List D} {vs ws : List V}, RpL K m H ds vs → RpL K m H es ws → RpL K m H (ds ++ es) (vs ++ ws)
  | _, _, _, _, .nil, s => s
  | _, _, _, _, .cons r t, s => .cons r (RpL.app t s)
theorem RpL.take : ∀ {ds : List D} {vs : List V} (n : Nat), RpL K m H ds vs → RpL K m H (ds.take n) (vs.take n)
  | _, _, 0, _ => .nil
  | _, _, _ + 1, .nil => .nil
  | _, _, n + 1, .cons r t => .cons r (RpL.take n t)
theorem RpL.drop : ∀ {ds : List D} {vs : List V} (n : Nat), RpL K m H ds vs → RpL K m H (ds.drop n) (vs.drop n)
  | _, _, 0, r => r
  | _, _, _ + 1, .nil => .nil
  | _, _, n + 1, .cons _ t => RpL.drop n t
theorem RpL.set : ∀ {ds : List D} {vs : List V} (i : Nat) {d : D} {v : V}, Rp K m H d v → RpL K m H ds vs → RpL K m H (ds.set i d) (vs.set i v)
  | _, _, _, _, _, _, .nil => .nil
  | _, _, 0, _, _, r, .cons _ t => .cons r t
  | _, _, i + 1, _, _, r, .cons q t => .cons q (RpL.set i r t)
theorem RpL.reverse : ∀ {ds : List D} {vs : List V}, RpL K m H ds vs → RpL K m H ds.reverse vs.reverse
  | _, _, .nil => .nil
  | _, _, .cons r t => by rw [List.reverse_cons, List.reverse_cons]; exact RpL.app (RpL.reverse t) (.cons r .nil)
theorem RpL.one {d : D} {vs : List V} (h : RpL K m H [d] vs) : ∃ v, vs = [v] ∧ Rp K m H d v := by
  cases h with
  | cons r t => cases t; exact ⟨_, rfl, r⟩
theorem RpL.two {d e : D} {vs : List V} (h : RpL K m H [d, e] vs) : ∃ v w, vs = [v, w] ∧ Rp K m H d v ∧ Rp K m H e w := by
  cases h with
  | cons r t => cases t with | cons r2 t2 => cases t2; exact ⟨_, _, rfl, r, r2⟩

def RpKv {κ : Type} (K : PySem.W.Frag) (m : List Addr) (H : Hp) (a : List (κ × D)) (b : List (κ × V)) : Prop :=
  Paired (fun (p : κ × D) (q : κ × V) => p.1 = q.1 ∧ Rp K m H p.2 q.2) a b
theorem RpKv.mono {κ : Type} (le : Le m H m' H') : ∀ {a : List (κ × D)} {b : List (κ × V)}, RpKv K m H a b → RpKv K m' H' a b
  | _, _, .nil => .nil
  | _, _, .cons r t => .cons ⟨r.1, Rp.mono le _ _ r.2⟩ (RpKv.mono le t)

def CellAt (K : PySem.W.Frag) (m : List Addr) (H : Hp) (a : Addr) : Cell → Prop
  | .lst xs => ∃ vs, H a = some (.lst vs) ∧ RpL K m H xs vs
  | .dct kvs => ∃ ws, H a = some (.dK ws) ∧ RpKv K m H kvs ws
  | .dtt kvs => ∃ ws, H a = some (.dT ws) ∧ RpKv K m H kvs ws
def isMut : HO → Bool
  | .lst _ => true | .dK _ => true | .dT _ => true | _ => false
theorem CellAt.mut {a : Addr} {c : Cell} (h : CellAt K m H a c) : ∃ o, H a = some o ∧ isMut o = true := by
  cases c with
  | lst xs => obtain ⟨vs, e, _⟩ := h; exact ⟨_, e, rfl⟩
  | dct xs => obtain ⟨vs, e, _⟩ := h; exact ⟨_, e, rfl⟩
  | dtt xs => obtain ⟨vs, e, _⟩ := h; exact ⟨_, e, rfl⟩
theorem CellAt.mono (le : Le m H m' H') {a : Addr} {c : Cell} (e : H' a = H a) (h : CellAt K m H a c) : CellAt K m' H' a c := by
  cases c with
  | lst xs => obtain ⟨vs, q, r⟩ := h; exact ⟨vs, by rw [e]; exact q, RpL.mono le _ _ r⟩
  | dct xs => obtain ⟨vs, q, r⟩ := h; exact ⟨vs, by rw [e]; exact q, RpKv.mono le r⟩
  | dtt xs => obtain ⟨vs, q, r⟩ := h; exact ⟨vs, by rw [e]; exact q, RpKv.mono le r⟩

structure Tie (K : PySem.W.Frag) (m : List Addr) (H : Hp) (st : Sto) : Prop where
  len : m.length = st.length
  nd : m.Nodup
  at_ : ∀ (l : Nat) (a : Addr) (c : Cell), m[l]? = some a → st[l]? = some c → CellAt K m H a c

theorem Tie.addr {st : Sto} (T : Tie K m H st) {l : Nat} {c : Cell} (h : st[l]? = some c) : ∃ a, m[l]? = some a ∧ CellAt K m H a c := by
  have hl : l < m.length := by rw [T.len]; exact (List.getElem?_eq_some_iff.mp h).1
  exact ⟨m[l], List.getElem?_eq_getElem hl, T.at_ l _ c (List.getElem?_eq_getElem hl) h⟩
theorem Tie.tracked {st : Sto} (T : Tie K m H st) {a : Addr} (h : a ∈ m) : ∃ o, H a = some o ∧ isMut o = true := by
  obtain ⟨l, hl, e⟩ := List.mem_iff_getElem.mp h
  have hs : l < st.length := by rw [← T.len]; exact hl
  exact (T.at_ l a _ (by rw [List.getElem?_eq_getElem hl, e]) (List.getElem?_eq_getElem hs)).mut
/-- something new that is no cell -/
theorem Tie.new {st : Sto} (T : Tie K m H st) {p : Addr} {o : HO} (h : H p = none) : Tie K m (upd H p o) st := by
  refine ⟨T.len, T.nd, fun l a c h1 h2 => ?_⟩
  have q := T.at_ l a c h1 h2
  obtain ⟨u, hu, _⟩ := q.mut
  exact q.mono (Le.new h) (upd_ne (ne_of_none hu h))
/-- a new cell -/
theorem Tie.cell {st : Sto} (T : Tie K m H st) {p : Addr} {o : HO} {c : Cell} (h : H p = none) (hc : ∀ (m' : List Addr) (H' : Hp), Le m H m' H' → H' p = some o → CellAt K m' H' p c) :
    Tie K (m ++ [p]) (upd H p o) (st ++ [c]) ∧ Le m H (m ++ [p]) (upd H p o) := by
  have le : Le m H (m ++ [p]) (upd H p o) := Le.newC h
  refine ⟨⟨by rw [List.length_append, List.length_append, T.len]; rfl, ?_, fun l a c' h1 h2 => ?_⟩, le⟩
  · rw [List.nodup_append]
    refine ⟨T.nd, by simp, fun a ha b hb => ?_⟩
    have e : b = p := by simpa using hb
    subst e
    obtain ⟨u, hu, _⟩ := T.tracked ha
    exact ne_of_none hu h
  · by_cases hl : l < m.length
    · rw [List.getElem?_append_left hl] at h1
      rw [List.getElem?_append_left (by rw [← T.len]; exact hl)] at h2
      have q := T.at_ l a c' h1 h2
      obtain ⟨u, hu, _⟩ := q.mut
      exact q.mono le (upd_ne (ne_of_none hu h))
    · have hl2 : m.length ≤ l := by omega
      rw [List.getElem?_append_right hl2] at h1
      rw [List.getElem?_append_right (by rw [← T.len]; exact hl2)] at h2
      have z : l - m.length = 0 := by
        cases e : l - m.length with
        | zero => rfl
        | succ k => rw [e] at h1; simp at h1
      rw [z] at h1
      rw [← T.len, z] at h2
      simp at h1 h2
      subst h1; subst h2
      exact hc _ _ le upd_same
/-- a cell that changes -/
theorem Tie.change {st : Sto} (T : Tie K m H st) {l : Nat} {a : Addr} {o : HO} {c : Cell} (hl : m[l]? = some a) (hc : ∀ H' : Hp, Le m H m H' → H' a = some o → CellAt K m H' a c) :
    Tie K m (upd H a o) (st.set l c) ∧ Le m H m (upd H a o) := by
  obtain ⟨u, hu, mu⟩ := T.tracked (List.mem_of_getElem? hl)
  have le : Le m H m (upd H a o) := by
    refine ⟨fun _ _ h => h, fun b xs e => ?_, fun b o' u' e => ?_, fun b o' e n => ?_, fun _ h n => absurd h n⟩
    · have nb : b ≠ a := by
        intro z; subst z; rw [hu] at e; cases e; cases mu
      rw [upd_ne nb]; exact e
    rotate_left 1
    · have nb : b ≠ a := by
        intro z; subst z; exact n (List.mem_of_getElem? hl)
      rw [upd_ne nb]; exact e
    · have nb : b ≠ a := by
        intro z; subst z; rw [hu] at e; cases e; cases mu
      rw [upd_ne nb]; exact e
  refine ⟨⟨by rw [List.length_set]; exact T.len, T.nd, fun k b c' h1 h2 => ?_⟩, le⟩
  by_cases hk : k = l
  · subst hk
    rw [hl] at h1; cases h1
    rw [List.getElem?_set] at h2
    simp only [if_true] at h2
    split at h2
    · cases h2; exact hc _ le upd_same
    · cases h2
  · rw [List.getElem?_set, if_neg (fun z => hk z.symm)] at h2
    have q := T.at_ k b c' h1 h2
    refine q.mono le (upd_ne ?_)
    intro z
    subst z
    obtain ⟨i1, e1⟩ := List.getElem?_eq_some_iff.mp h1
    obtain ⟨i2, e2⟩ := List.getElem?_eq_some_iff.mp hl
    exact hk ((List.getElem_inj T.nd).mp (e1.trans e2.symm))
end

/-! ## environments -/
structure EnvR (K : PySem.W.Frag) (m : List Addr) (H : Hp) (r : DEnv) (σ : L2.St) : Prop where
  len : r.length = σ.length
  at_ : ∀ (i : Nat) (d : D), r[i]? = some (some d) → ∃ v, σ[i]? = some (some v) ∧ Rp K m H d v
section
variable {K : PySem.W.Frag} {m m' : List Addr} {H H' : Hp} {r : DEnv} {σ : L2.St}
theorem EnvR.mono (le : Le m H m' H') (E : EnvR K m H r σ) : EnvR K m' H' r σ :=
  ⟨E.len, fun i d h => let ⟨v, e, q⟩ := E.at_ i d h; ⟨v, e, Rp.mono le _ _ q⟩⟩
theorem EnvR.set {i : Nat} {d : D} {v : V} (E : EnvR K m H r σ) (q : Rp K m H d v) : EnvR K m H (r.set i (some d)) (σ.set i (some v)) := by
  refine ⟨by rw [List.length_set, List.length_set]; exact E.len, fun j e h => ?_⟩
  rw [List.getElem?_set] at h ⊢
  by_cases hij : i = j
  · subst hij
    rw [if_pos rfl] at h
    by_cases hl : i < r.length
    · rw [if_pos hl] at h; cases h
      exact ⟨v, by rw [if_pos rfl, if_pos (by rw [← E.len]; exact hl)], q⟩
    · rw [if_neg hl] at h; cases h
  · rw [if_neg hij] at h
    rw [if_neg hij]
    exact E.at_ j e h
end

/-! ## the monad of what is reckoned -/
abbrev M (α : Type) := Sto → Option (α × Sto)
def ret {α : Type} (x : α) : M α := fun st => some (x, st)
def bnd {α β : Type} (f : M α) (g : α → M β) : M β := fun st => match f st with
  | some (x, s1) => g x s1
  | none => none
def stuck {α : Type} : M α := fun _ => none
theorem bnd_some {α β : Type} {f : M α} {g : α → M β} {st : Sto} {q : β × Sto} (h : bnd f g st = some q) : ∃ x s1, f st = some (x, s1) ∧ g x s1 = some q := by
  unfold bnd at h
  split at h
  · rename_i x s1 e; exact ⟨x, s1, e, h⟩
  · cases h
abbrev Fx := DEnv → M D
abbrev Ft := DEnv → M Bool
abbrev Fa := DEnv → M (List D)

def Snd (K : PySem.W.Frag) (t : TE) (f : Fx) : Prop :=
  ∀ (m : List Addr) (H : Hp) (st : Sto) (r : DEnv) (σ : L2.St) (Q : VK) (d : D) (st' : Sto), Tie K m H st → EnvR K m H r σ → f r st = some (d, st') →
    (∀ (m' : List Addr) (H' : Hp) (v : V), Le m H m' H' → Tie K m' H' st' → Rp K m' H' d v → Q v H') → t σ H Q
def SndT (K : PySem.W.Frag) (t : TT) (f : Ft) : Prop :=
  ∀ (m : List Addr) (H : Hp) (st : Sto) (r : DEnv) (σ : L2.St) (Q : Bool → Hp → Prop) (d : Bool) (st' : Sto), Tie K m H st → EnvR K m H r σ → f r st = some (d, st') →
    (∀ (m' : List Addr) (H' : Hp), Le m H m' H' → Tie K m' H' st' → Q d H') → t σ H Q
def SndA (K : PySem.W.Frag) (t : TA) (f : Fa) : Prop :=
  ∀ (m : List Addr) (H : Hp) (st : Sto) (r : DEnv) (σ : L2.St) (Q : List V → Hp → Prop) (ds : List D) (st' : Sto), Tie K m H st → EnvR K m H r σ → f r st = some (ds, st') →
    (∀ (m' : List Addr) (H' : Hp) (vs : List V), Le m H m' H' → Tie K m' H' st' → RpL K m' H' ds vs → Q vs H') → t σ H Q
def FE (X : Cx) (e : Expr) (f : Fx) : Prop := ∃ t, PE X e t ∧ Snd X.K t f
def FT (X : Cx) (e : Expr) (f : Ft) : Prop := ∃ t, PT X e t ∧ SndT X.K t f
def FW (X : Cx) (e : Expr) (f : Ft) : Prop := ∃ t, PW X e t ∧ SndT X.K t f
def FA (X : Cx) (es : List Expr) (f : Fa) : Prop := ∃ t, PA X es t ∧ SndA X.K t f

inductive Out where
  | nx (r : DEnv) | rt (d : D) | bk (r : DEnv) | ct (r : DEnv)
abbrev Fs := DEnv → M Out
/-- what an end asks -/
def Meets (K : PySem.W.Frag) (m : List Addr) (H : Hp) (D0 : Ends) (st' : Sto) : Out → Prop
  | .nx r => ∀ (m' : List Addr) (H' : Hp) (σ' : L2.St), Le m H m' H' → Tie K m' H' st' → EnvR K m' H' r σ' → D0.nx σ' H'
  | .rt d => ∀ (m' : List Addr) (H' : Hp) (v : V), Le m H m' H' → Tie K m' H' st' → Rp K m' H' d v → D0.rt v H'
  | .bk r => ∀ (m' : List Addr) (H' : Hp) (σ' : L2.St), Le m H m' H' → Tie K m' H' st' → EnvR K m' H' r σ' → D0.bk σ' H'
  | .ct r => ∀ (m' : List Addr) (H' : Hp) (σ' : L2.St), Le m H m' H' → Tie K m' H' st' → EnvR K m' H' r σ' → D0.ct σ' H'
theorem Meets.le {K : PySem.W.Frag} {m m1 : List Addr} {H H1 : Hp} {D0 : Ends} {st' : Sto} {o : Out} (le : Le m H m1 H1) (h : Meets K m H D0 st' o) : Meets K m1 H1 D0 st' o := by
  cases o with
  | nx r => exact fun m' H' s' l => h m' H' s' (le.trans l)
  | rt d => exact fun m' H' s' l => h m' H' s' (le.trans l)
  | bk r => exact fun m' H' s' l => h m' H' s' (le.trans l)
  | ct r => exact fun m' H' s' l => h m' H' s' (le.trans l)
def SndS (K : PySem.W.Frag) (t : TS) (g : Fs) : Prop :=
  ∀ (m : List Addr) (H : Hp) (st : Sto) (r : DEnv) (σ : L2.St) (D0 : Ends) (o : Out) (st' : Sto), Tie K m H st → EnvR K m H r σ → g r st = some (o, st') → Meets K m H D0 st' o → t D0 σ H
def FS (X : Cx) (s : Stmt) (g : Fs) : Prop := ∃ t, PS X s t ∧ SndS X.K t g
def FSs (X : Cx) (s : List Stmt) (g : Fs) : Prop := ∃ t, PSs X s t ∧ SndS X.K t g
end Fe
namespace Fe
open PySem PySem.Spec PyProof.Rows L2

/-- what is wanted behind an expression -/
abbrev Pst (K : PySem.W.Frag) (m : List Addr) (H : Hp) (st' : Sto) (d : D) (Q : VK) : Prop := ∀ (m' : List Addr) (H' : Hp) (v : V), Le m H m' H' → Tie K m' H' st' → Rp K m' H' d v → Q v H'
theorem Pst.le {K : PySem.W.Frag} {m m1 : List Addr} {H H1 : Hp} {st' : Sto} {d : D} {Q : VK} (le : Le m H m1 H1) (h : Pst K m H st' d Q) : Pst K m1 H1 st' d Q := fun m' H' v l => h m' H' v (le.trans l)

def SR2 (K : PySem.W.Frag) (r : R2) (g : D → D → M D) : Prop :=
  ∀ (m : List Addr) (H : Hp) (st : Sto) (x y : V) (dx dy : D) (Q : VK) (d : D) (st' : Sto), Tie K m H st → Rp K m H dx x → Rp K m H dy y → g dx dy st = some (d, st') → Pst K m H st' d Q → r x y H Q
def SR1 (K : PySem.W.Frag) (r : V → Hp → VK → Prop) (g : D → M D) : Prop :=
  ∀ (m : List Addr) (H : Hp) (st : Sto) (x : V) (dx : D) (Q : VK) (d : D) (st' : Sto), Tie K m H st → Rp K m H dx x → g dx st = some (d, st') → Pst K m H st' d Q → r x H Q
def SRs (K : PySem.W.Frag) (r : List V → Hp → VK → Prop) (g : List D → M D) : Prop :=
  ∀ (m : List Addr) (H : Hp) (st : Sto) (vs : List V) (ds : List D) (Q : VK) (d : D) (st' : Sto), Tie K m H st → RpL K m H ds vs → g ds st = some (d, st') → Pst K m H st' d Q → r vs H Q
def SRm (K : PySem.W.Frag) (r : V → List V → Hp → VK → Prop) (g : D → List D → M D) : Prop :=
  ∀ (m : List Addr) (H : Hp) (st : Sto) (x : V) (dx : D) (vs : List V) (ds : List D) (Q : VK) (d : D) (st' : Sto), Tie K m H st → Rp K m H dx x → RpL K m H ds vs → g dx ds st = some (d, st') → Pst K m H st' d Q → r x vs H Q

theorem SR2.or {K : PySem.W.Frag} {r r' : R2} {g g' : D → D → M D} (h : SR2 K r g) (h' : SR2 K r' g') :
    SR2 K (fun x y H Q => r x y H Q ∨ r' x y H Q) (fun x y st => match g x y st with | some q => some q | none => g' x y st) := by
  intro m H st x y dx dy Q d st' T rx ry hg post
  simp only at hg
  split at hg
  · rename_i q e; exact .inl (h m H st x y dx dy Q d st' T rx ry (e.trans hg) post)
  · exact .inr (h' m H st x y dx dy Q d st' T rx ry hg post)

section
variable {X : Cx} {a b : Expr} {fa fb : Fx} {pos : Pos}

/-! ## names, constants -/
def eVar (i : Nat) : Fx := fun r st => match r[i]? with
  | some (some d) => some (d, st)
  | _ => none
theorem fe_var {i : Nat} {x : Str} (hN : X.N[i]? = some x) (hv : Vis X.env.scope x) (hd : (x == ("__debug__" : Str)) = false := by decide) (hcd : (x == ("__classdict__" : Str)) = false := by decide) : FE X (.Name x pos) (eVar i) := by
  refine ⟨_, pe_var hN hv hd hcd, fun m H st r σ Q d st' T E h post => ?_⟩
  unfold eVar at h
  split at h
  · rename_i d' e
    cases h
    obtain ⟨v, e2, q⟩ := E.at_ i _ e
    exact ⟨v, e2, post m H v .refl T q⟩
  · cases h
def eC (d : D) : Fx := fun _ st => some (d, st)
theorem fe_c {e : Expr} {v : V} {d : D} (h : PE X e (tC v)) (hr : ∀ m H, Rp X.K m H d v) : FE X e (eC d) :=
  ⟨_, h, fun m H st r σ Q d' st' T E h post => by cases h; exact post m H v .refl T (hr m H)⟩
theorem fe_int {i : Int} {j} : FE X (.Constant (.int i) j pos) (eC (.int i)) := fe_c pe_int fun _ _ => .int i
theorem fe_str {x : Str} {j} : FE X (.Constant (.str x) j pos) (eC (.str x)) := fe_c pe_str fun _ _ => .str x
theorem fe_bl {x : Bool} {j} : FE X (.Constant (.bool x) j pos) (eC (.bl x)) := fe_c pe_bl fun _ _ => .bl x
theorem fe_non {j} : FE X (.Constant .none j pos) (eC .non) := fe_c pe_non fun _ _ => .non
/-- a module's constant -/
theorem fe_glob {x : Str} {v : V} {u : Value} {d : D} (hg : Gl X x) (hm : X.mg x = some u) (hr : RelV v u) (hd : ∀ m H, Rp X.K m H d v) (hdb : (x == ("__debug__" : Str)) = false := by decide) : FE X (.Name x pos) (eC d) := fe_c (pe_glob hg hm hr hdb) hd

/-! ## operators -/
def eBin (g : D → D → M D) (fa fb : Fx) : Fx := fun r => bnd (fa r) fun x => bnd (fb r) fun y => g x y
theorem snd_op {K : PySem.W.Frag} {ta tb : TE} {r : R2} {g : D → D → M D} {fa fb : Fx} (ha : Snd K ta fa) (hb : Snd K tb fb) (hs : SR2 K r g) : Snd K (tOp r ta tb) (eBin g fa fb) := by
  intro m H st ρ σ Q d st' T E h post
  obtain ⟨x, s1, h1, h⟩ := bnd_some h
  obtain ⟨y, s2, h2, h⟩ := bnd_some h
  refine ha m H st ρ σ _ x s1 T E h1 fun m1 H1 v l1 T1 r1 => ?_
  refine hb m1 H1 s1 ρ σ _ y s2 T1 (E.mono l1) h2 fun m2 H2 w l2 T2 r2 => ?_
  exact hs m2 H2 s2 v w x y Q d st' T2 (Rp.mono l2 _ _ r1) r2 h (Pst.le (l1.trans l2) post)
theorem fe_bin {op : Operator} {r : R2} {g : D → D → M D} (ho : OpR X (binaryOp op) r) (hs : SR2 X.K r g) (ha : FE X a fa) (hb : FE X b fb) : FE X (.BinOp a op b pos) (eBin g fa fb) := by
  obtain ⟨ta, pa, sa⟩ := ha
  obtain ⟨tb, pb, sb⟩ := hb
  exact ⟨_, pe_op ho pa pb, snd_op sa sb hs⟩
def eUn (g : D → M D) (fa : Fx) : Fx := fun r => bnd (fa r) fun x => g x
theorem fe_un {op : UnaryOp} {r : V → Hp → VK → Prop} {g : D → M D} (ho : UnR X (unaryOp op) r) (hs : SR1 X.K r g) (ha : FE X a fa) : FE X (.UnaryOp op a pos) (eUn g fa) := by
  obtain ⟨ta, pa, sa⟩ := ha
  refine ⟨_, pe_un ho pa, fun m H st ρ σ Q d st' T E h post => ?_⟩
  obtain ⟨x, s1, h1, h⟩ := bnd_some h
  refine sa m H st ρ σ _ x s1 T E h1 fun m1 H1 v l1 T1 r1 => ?_
  exact hs m1 H1 s1 v x Q d st' T1 r1 h (Pst.le l1 post)
/-- a comparison as a value, as a test -/
theorem fe_cmp {op : CmpOp} {r : R2} {g : D → D → M D} (ho : OpR X (compareOp op) r) (hs : SR2 X.K r g) (hm : behindInMarks op b = false) (ha : FE X a fa) (hb : FE X b fb) : FE X (.Compare a [op] [b] pos) (eBin g fa fb) := by
  obtain ⟨ta, pa, sa⟩ := ha
  obtain ⟨tb, pb, sb⟩ := hb
  exact ⟨_, pe_cmpR ho pa pb hm, snd_op sa sb hs⟩
def asB (f : Fx) : Ft := fun r => bnd (f r) fun d => match d with
  | .bl k => ret k
  | _ => stuck
theorem sndT_of {K : PySem.W.Frag} {t : TE} {f : Fx} (h : Snd K t f) : SndT K (fun σ H Q => t σ H fun x H' => ∃ k, x = .bl k ∧ Q k H') (asB f) := by
  intro m H st ρ σ Q d st' T E hf post
  obtain ⟨x, s1, h1, hf⟩ := bnd_some hf
  cases x with
  | bl k =>
    cases hf
    refine h m H st ρ σ _ _ _ T E h1 fun m1 H1 v l1 T1 r1 => ?_
    cases r1
    exact ⟨_, rfl, post m1 H1 l1 T1⟩
  | _ => cases hf
theorem ft_cmp {op : CmpOp} {r : R2} {g : D → D → M D} (ho : OpR X (compareOp op) r) (hs : SR2 X.K r g) (hm : behindInMarks op b = false) (ha : FE X a fa) (hb : FE X b fb) : FT X (.Compare a [op] [b] pos) (asB (eBin g fa fb)) := by
  obtain ⟨ta, pa, sa⟩ := ha
  obtain ⟨tb, pb, sb⟩ := hb
  exact ⟨_, pt_cmpR ho pa pb hm, sndT_of (snd_op sa sb hs)⟩
theorem ft_val {e : Expr} {f : Fx} (h : FE X e f) (he : ∀ whole, isTrue e X.env whole = (do let v ← whole; standAt e.pos; holding [v] (truthy v)) := by intro _; rfl) : FT X e (asB f) := by
  obtain ⟨t, p, s⟩ := h
  exact ⟨_, pt_val p he, sndT_of s⟩
/-- a < b < c -/
def eChain (g g' : D → D → M D) (fa fb fc : Fx) : Fx := fun r => bnd (fa r) fun x => bnd (fb r) fun y => bnd (g x y) fun z => match z with
  | .bl true => bnd (fc r) fun w => g' y w
  | .bl false => ret (.bl false)
  | _ => stuck
/-! ## and, or, not, if -/
def tAndF (f g : Ft) : Ft := fun r => bnd (f r) fun c => if c = true then g r else ret false
def tOrF (f g : Ft) : Ft := fun r => bnd (f r) fun c => if c = true then ret true else g r
def tNotF (f : Ft) : Ft := fun r => bnd (f r) fun c => ret (!c)
theorem FW.ft {e : Expr} {f : Ft} (h : FW X e f) : FT X e f := let ⟨t, p, s⟩ := h; ⟨t, p.pt, s⟩
theorem fw_and1 {f : Ft} (h : FT X a f) : FW X (.BoolOp .And [a] pos) f := let ⟨t, p, s⟩ := h; ⟨t, pw_and1 p, s⟩
theorem fw_or1 {f : Ft} (h : FT X a f) : FW X (.BoolOp .Or [a] pos) f := let ⟨t, p, s⟩ := h; ⟨t, pw_or1 p, s⟩
theorem fw_and {rest : List Expr} {f g : Ft} (h : FT X a f) (h' : FW X (.BoolOp .And (b :: rest) pos) g) : FW X (.BoolOp .And (a :: b :: rest) pos) (tAndF f g) := by
  obtain ⟨t, p, s⟩ := h
  obtain ⟨u, p', s'⟩ := h'
  refine ⟨_, pw_and p p', fun m H st ρ σ Q d st' T E hf post => ?_⟩
  obtain ⟨c, s1, h1, hf⟩ := bnd_some hf
  refine s m H st ρ σ _ c s1 T E h1 fun m1 H1 l1 T1 => ?_
  cases c with
  | true => exact s' m1 H1 s1 ρ σ Q d st' T1 (E.mono l1) hf fun m2 H2 l2 T2 => post m2 H2 (l1.trans l2) T2
  | false => cases hf; exact post m1 H1 l1 T1
theorem fw_or {rest : List Expr} {f g : Ft} (h : FT X a f) (h' : FW X (.BoolOp .Or (b :: rest) pos) g) : FW X (.BoolOp .Or (a :: b :: rest) pos) (tOrF f g) := by
  obtain ⟨t, p, s⟩ := h
  obtain ⟨u, p', s'⟩ := h'
  refine ⟨_, pw_or p p', fun m H st ρ σ Q d st' T E hf post => ?_⟩
  obtain ⟨c, s1, h1, hf⟩ := bnd_some hf
  refine s m H st ρ σ _ c s1 T E h1 fun m1 H1 l1 T1 => ?_
  cases c with
  | false => exact s' m1 H1 s1 ρ σ Q d st' T1 (E.mono l1) hf fun m2 H2 l2 T2 => post m2 H2 (l1.trans l2) T2
  | true => cases hf; exact post m1 H1 l1 T1
theorem ft_not {f : Ft} (h : FT X a f) : FT X (.UnaryOp .Not a pos) (tNotF f) := by
  obtain ⟨t, p, s⟩ := h
  refine ⟨_, pt_not p, fun m H st ρ σ Q d st' T E hf post => ?_⟩
  obtain ⟨c, s1, h1, hf⟩ := bnd_some hf
  cases hf
  exact s m H st ρ σ _ c _ T E h1 fun m1 H1 l1 T1 => post m1 H1 l1 T1
/-- as values -/
def eAnd (f g : Fx) : Fx := fun r => bnd (f r) fun c => match c with
  | .bl true => g r
  | .bl false => ret (.bl false)
  | _ => stuck
def eOr (f g : Fx) : Fx := fun r => bnd (f r) fun c => match c with
  | .bl false => g r
  | .bl true => ret (.bl true)
  | _ => stuck
def eNot (f : Fx) : Fx := fun r => bnd (f r) fun c => match c with
  | .bl k => ret (.bl (!k))
  | _ => stuck
theorem fe_one {op} {f : Fx} (h : FE X a f) : FE X (.BoolOp op [a] pos) f := let ⟨t, p, s⟩ := h; ⟨t, pe_one p, s⟩
theorem fe_and {rest : List Expr} {f g : Fx} (h : FE X a f) (h' : FE X (.BoolOp .And (b :: rest) pos) g) : FE X (.BoolOp .And (a :: b :: rest) pos) (eAnd f g) := by
  obtain ⟨t, p, s⟩ := h
  obtain ⟨u, p', s'⟩ := h'
  refine ⟨_, pe_and p p', fun m H st ρ σ Q d st' T E hf post => ?_⟩
  obtain ⟨c, s1, h1, hf⟩ := bnd_some hf
  refine s m H st ρ σ _ c s1 T E h1 fun m1 H1 v l1 T1 r1 => ?_
  cases c with
  | bl k =>
    cases r1
    cases k with
    | true => exact ⟨true, rfl, s' m1 H1 s1 ρ σ Q d st' T1 (E.mono l1) hf (Pst.le l1 post)⟩
    | false => cases hf; exact ⟨false, rfl, post m1 H1 _ l1 T1 (.bl false)⟩
  | _ => cases hf
theorem fe_or {rest : List Expr} {f g : Fx} (h : FE X a f) (h' : FE X (.BoolOp .Or (b :: rest) pos) g) : FE X (.BoolOp .Or (a :: b :: rest) pos) (eOr f g) := by
  obtain ⟨t, p, s⟩ := h
  obtain ⟨u, p', s'⟩ := h'
  refine ⟨_, pe_or p p', fun m H st ρ σ Q d st' T E hf post => ?_⟩
  obtain ⟨c, s1, h1, hf⟩ := bnd_some hf
  refine s m H st ρ σ _ c s1 T E h1 fun m1 H1 v l1 T1 r1 => ?_
  cases c with
  | bl k =>
    cases r1
    cases k with
    | false => exact ⟨false, rfl, s' m1 H1 s1 ρ σ Q d st' T1 (E.mono l1) hf (Pst.le l1 post)⟩
    | true => cases hf; exact ⟨true, rfl, post m1 H1 _ l1 T1 (.bl true)⟩
  | _ => cases hf
theorem fe_not {f : Fx} (h : FE X a f) : FE X (.UnaryOp .Not a pos) (eNot f) := by
  obtain ⟨t, p, s⟩ := h
  refine ⟨_, pe_not p, fun m H st ρ σ Q d st' T E hf post => ?_⟩
  obtain ⟨c, s1, h1, hf⟩ := bnd_some hf
  cases c with
  | bl k =>
    cases hf
    refine s m H st ρ σ _ _ _ T E h1 fun m1 H1 v l1 T1 r1 => ?_
    cases r1
    exact ⟨k, rfl, post m1 H1 _ l1 T1 (.bl (!k))⟩
  | _ => cases hf
def eIf (c : Ft) (f g : Fx) : Fx := fun r => bnd (c r) fun k => if k = true then f r else g r
theorem fe_if {c : Expr} {fc : Ft} {f g : Fx} (hc : FT X c fc) (ha : FE X a f) (hb : FE X b g) : FE X (.IfExp c a b pos) (eIf fc f g) := by
  obtain ⟨tc, pc, sc⟩ := hc
  obtain ⟨t, p, s⟩ := ha
  obtain ⟨u, p', s'⟩ := hb
  refine ⟨_, pe_ifExp pc p p', fun m H st ρ σ Q d st' T E hf post => ?_⟩
  obtain ⟨k, s1, h1, hf⟩ := bnd_some hf
  refine sc m H st ρ σ _ k s1 T E h1 fun m1 H1 l1 T1 => ?_
  cases k with
  | true => exact s m1 H1 s1 ρ σ Q d st' T1 (E.mono l1) hf (Pst.le l1 post)
  | false => exact s' m1 H1 s1 ρ σ Q d st' T1 (E.mono l1) hf (Pst.le l1 post)

/-! ## argument lists, displays -/
def aNil : Fa := fun _ => ret []
def aCons (f : Fx) (g : Fa) : Fa := fun r => bnd (f r) fun d => bnd (g r) fun ds => ret (d :: ds)
theorem fa_nil : FA X [] aNil := ⟨_, pa_nil, fun m H st ρ σ Q d st' T E h post => by cases h; exact post m H [] .refl T .nil⟩
theorem fa_cons {e : Expr} {es : List Expr} {f : Fx} {g : Fa} (h : FE X e f) (h' : FA X es g) (hs : starEach (e :: es) X.env = (false, eval e X.env) :: starEach es X.env := by rfl) : FA X (e :: es) (aCons f g) := by
  obtain ⟨t, p, s⟩ := h
  obtain ⟨u, p', s'⟩ := h'
  refine ⟨_, pa_cons p p' hs, fun m H st ρ σ Q d st' T E hf post => ?_⟩
  obtain ⟨x, s1, h1, hf⟩ := bnd_some hf
  obtain ⟨xs, s2, h2, hf⟩ := bnd_some hf
  cases hf
  refine s m H st ρ σ _ x s1 T E h1 fun m1 H1 v l1 T1 r1 => ?_
  refine s' m1 H1 s1 ρ σ _ xs _ T1 (E.mono l1) h2 fun m2 H2 vs l2 T2 r2 => ?_
  exact post m2 H2 _ (l1.trans l2) T2 (.cons (Rp.mono l2 _ _ r1) r2)
def small (xs : List D) : Bool := decide (xs.length ≤ sizeLine)
def eTup (g : Fa) : Fx := fun r => bnd (g r) fun ds st => if small ds = true then some (.tup ds, st) else none
def newL (ds : List D) : M D := fun st => if small ds = true then some (.loc st.length, st ++ [.lst ds]) else none
def eLst (g : Fa) : Fx := fun r => bnd (g r) newL
theorem small_le {K : PySem.W.Frag} {m : List Addr} {H : Hp} {ds : List D} {vs : List V} (h : small ds = true) (r : RpL K m H ds vs) : vs.length ≤ sizeLine := by
  rw [← r.length]; exact of_decide_eq_true h
/-- a new tuple, a new list -/
theorem post_tup {K : PySem.W.Frag} {m : List Addr} {H : Hp} {st : Sto} {ds : List D} {vs : List V} {Q : VK} (T : Tie K m H st) (r : RpL K m H ds vs) (post : Pst K m H st (.tup ds) Q) {p : Addr} (hp : H p = none) : Q (.ref p) (upd H p (.tup vs)) :=
  post m _ _ (Le.new hp) (T.new hp) (.tup upd_same (RpL.mono (Le.new hp) _ _ r))
theorem post_lst {K : PySem.W.Frag} {m : List Addr} {H : Hp} {st : Sto} {ds : List D} {vs : List V} {Q : VK} (T : Tie K m H st) (r : RpL K m H ds vs) (post : Pst K m H (st ++ [.lst ds]) (.loc st.length) Q) {p : Addr} (hp : H p = none) : Q (.ref p) (upd H p (.lst vs)) := by
  obtain ⟨T', le⟩ := T.cell (c := .lst ds) hp fun m' H' le e => ⟨vs, e, RpL.mono le _ _ r⟩
  exact post _ _ _ le T' (.loc (by rw [← T.len]; simp))
theorem fe_tup {es : List Expr} {g : Fa} {x1} (h : FA X es g) : FE X (.Tuple es x1 pos) (eTup g) := by
  obtain ⟨t, p, s⟩ := h
  refine ⟨_, pe_tup p, fun m H st ρ σ Q d st' T E hf post => ?_⟩
  obtain ⟨ds, s1, h1, hf⟩ := bnd_some hf
  split at hf
  · rename_i hz
    cases hf
    refine s m H st ρ σ _ ds _ T E h1 fun m1 H1 vs l1 T1 r1 => ⟨small_le hz r1, fun q hq => ?_⟩
    exact post_tup T1 r1 (Pst.le l1 post) hq
  · cases hf
theorem fe_lst {es : List Expr} {g : Fa} (h : FA X es g) : FE X (.List es pos) (eLst g) := by
  obtain ⟨t, p, s⟩ := h
  refine ⟨_, pe_lst p, fun m H st ρ σ Q d st' T E hf post => ?_⟩
  obtain ⟨ds, s1, h1, hf⟩ := bnd_some hf
  unfold newL at hf
  split at hf
  · rename_i hz
    cases hf
    refine s m H st ρ σ _ ds _ T E h1 fun m1 H1 vs l1 T1 r1 => ⟨small_le hz r1, fun q hq => ?_⟩
    exact post_lst T1 r1 (Pst.le l1 post) hq
  · cases hf

/-! ## built-in functions, methods -/
def eCall (g : List D → M D) (fa : Fa) : Fx := fun r => bnd (fa r) g
theorem snd_call {K : PySem.W.Frag} {r : List V → Hp → VK → Prop} {g : List D → M D} {t : TA} {f : Fa} (h : SndA K t f) (hs : SRs K r g) : Snd K (tCB r t) (eCall g f) := by
  intro m H st ρ σ Q d st' T E hf post
  obtain ⟨ds, s1, h1, hf⟩ := bnd_some hf
  exact h m H st ρ σ _ ds s1 T E h1 fun m1 H1 vs l1 T1 r1 => hs m1 H1 s1 vs ds Q d st' T1 r1 hf (Pst.le l1 post)
theorem fe_callB {x : Str} {id : String} {r : List V → Hp → VK → Prop} {g : List D → M D} {e : Expr} {es : List Expr} {f : Fa} {p : Pos} (hc : CallR X (.builtin id) r) (hs : SRs X.K r g) (hg : Gl X x) (hm : X.mg x = none) (hv : bootBuiltins x = some (.builtin id)) (ha : FA X (e :: es) f)
    (hn : x ≠ "__name__" := by decide) (hdb : (x == ("__debug__" : Str)) = false := by decide)
    (he : starEach (e :: es) X.env = (false, eval e X.env) :: starEach es X.env := by rfl) (hpl : (backTo pos (starEach es X.env)).any (·.1) = false := by rfl) : FE X (.Call (.Name x p) (e :: es) [] pos) (eCall g f) := by
  obtain ⟨t, pa, s⟩ := ha
  exact ⟨_, pe_callB hc hg hm hv pa hn hdb he hpl, snd_call s hs⟩
theorem fe_callTy {x : Str} {ty : String} {r : List V → Hp → VK → Prop} {g : List D → M D} {e : Expr} {es : List Expr} {f : Fa} {p : Pos} (hc : CallR X (.type ty) r) (hs : SRs X.K r g) (hg : Gl X x) (hm : X.mg x = none) (hv : bootBuiltins x = some (.type ty)) (ha : FA X (e :: es) f)
    (hn : x ≠ "__name__" := by decide) (hdb : (x == ("__debug__" : Str)) = false := by decide)
    (he : starEach (e :: es) X.env = (false, eval e X.env) :: starEach es X.env := by rfl) (hpl : (backTo pos (starEach es X.env)).any (·.1) = false := by rfl) : FE X (.Call (.Name x p) (e :: es) [] pos) (eCall g f) := by
  obtain ⟨t, pa, s⟩ := ha
  exact ⟨_, pe_callTy hc hg hm hv pa hn hdb he hpl, snd_call s hs⟩
def eMeth (g : D → List D → M D) (fo : Fx) (fa : Fa) : Fx := fun r => bnd (fo r) fun x => bnd (fa r) fun ds => g x ds
/-- the receiver's type, as it is told -/
def SRty (K : PySem.W.Frag) (ty : String) (g : D → Bool) : Prop := ∀ (m : List Addr) (H : Hp) (st : Sto) (x : V) (dx : D), Tie K m H st → Rp K m H dx x → g dx = true → tyV K ty x H

/-! ## subscripts, slices -/
theorem fe_ix {r : R2} {g : D → D → M D} (hr : IxR X r) (hs : SR2 X.K r g) (hx : PlainIx b) (ha : FE X a fa) (hb : FE X b fb) : FE X (.Subscript a b pos) (eBin g fa fb) := by
  obtain ⟨ta, pa, sa⟩ := ha
  obtain ⟨tb, pb, sb⟩ := hb
  exact ⟨_, pe_ix hr pa pb hx, snd_op sa sb hs⟩
abbrev Fo := DEnv → M (Option Int)
def SndO (K : PySem.W.Frag) (t : TO) (f : Fo) : Prop :=
  ∀ (m : List Addr) (H : Hp) (st : Sto) (r : DEnv) (σ : L2.St) (Q : Option Int → Hp → Prop) (d : Option Int) (st' : Sto), Tie K m H st → EnvR K m H r σ → f r st = some (d, st') →
    (∀ (m' : List Addr) (H' : Hp), Le m H m' H' → Tie K m' H' st' → Q d H') → t σ H Q
def FO (X : Cx) (e : Option Expr) (f : Fo) : Prop := ∃ t, PO X e t ∧ SndO X.K t f
def oNone : Fo := fun _ => ret none
def oSome (f : Fx) : Fo := fun r => bnd (f r) fun d => match d with
  | .int i => ret (some i)
  | _ => stuck
theorem fo_none : FO X none oNone := ⟨_, po_none, fun m H st ρ σ Q d st' T E h post => by cases h; exact post m H .refl T⟩
theorem fo_some {e : Expr} {f : Fx} (h : FE X e f) : FO X (some e) (oSome f) := by
  obtain ⟨t, p, s⟩ := h
  refine ⟨_, po_some p, fun m H st ρ σ Q d st' T E hf post => ?_⟩
  obtain ⟨x, s1, h1, hf⟩ := bnd_some hf
  cases x with
  | int i =>
    cases hf
    refine s m H st ρ σ _ _ _ T E h1 fun m1 H1 v l1 T1 r1 => ?_
    cases r1
    exact ⟨i, rfl, post m1 H1 l1 T1⟩
  | _ => cases hf
def SRsl (K : PySem.W.Frag) (r : V → Option Int → Option Int → Hp → VK → Prop) (g : D → Option Int → Option Int → M D) : Prop :=
  ∀ (m : List Addr) (H : Hp) (st : Sto) (x : V) (dx : D) (lo hi : Option Int) (Q : VK) (d : D) (st' : Sto), Tie K m H st → Rp K m H dx x → g dx lo hi st = some (d, st') → Pst K m H st' d Q → r x lo hi H Q
def eSl (g : D → Option Int → Option Int → M D) (f : Fx) (lo hi : Fo) : Fx := fun r => bnd (f r) fun x => bnd (lo r) fun i => bnd (hi r) fun j => g x i j
theorem fe_sl {lo hi : Option Expr} {r : V → Option Int → Option Int → Hp → VK → Prop} {g : D → Option Int → Option Int → M D} {fl fh : Fo} {p2 : Pos} (hr : SlR X r) (hs : SRsl X.K r g) (ha : FE X a fa) (hl : FO X lo fl) (hu : FO X hi fh) : FE X (.Subscript a (.Slice lo hi none p2) pos) (eSl g fa fl fh) := by
  obtain ⟨ta, pa, sa⟩ := ha
  obtain ⟨tl, pl, sl⟩ := hl
  obtain ⟨tu, pu, su⟩ := hu
  refine ⟨_, pe_slice hr pa pl pu, fun m H st ρ σ Q d st' T E hf post => ?_⟩
  obtain ⟨x, s1, h1, hf⟩ := bnd_some hf
  obtain ⟨i, s2, h2, hf⟩ := bnd_some hf
  obtain ⟨j, s3, h3, hf⟩ := bnd_some hf
  refine sa m H st ρ σ _ x s1 T E h1 fun m1 H1 v l1 T1 r1 => ?_
  refine sl m1 H1 s1 ρ σ _ i s2 T1 (E.mono l1) h2 fun m2 H2 l2 T2 => ?_
  refine su m2 H2 s2 ρ σ _ j s3 T2 (E.mono (l1.trans l2)) h3 fun m3 H3 l3 T3 => ?_
  exact hs m3 H3 s3 v x i j Q d st' T3 (Rp.mono (l2.trans l3) _ _ r1) hf (Pst.le (l1.trans (l2.trans l3)) post)
end

/-! ## data read whole -/
def toPy (st : Sto) : Nat → D → Option PyData
  | 0, _ => none
  | _ + 1, .non => some .none
  | _ + 1, .bl b => some (.bool b)
  | _ + 1, .int i => some (.int i)
  | _ + 1, .str x => some (.str x)
  | n + 1, .tup xs => (xs.mapM (toPy st n)).map .tuple
  | n + 1, .ptp xs => (xs.mapM (toPy st n)).map .tuple
  | n + 1, .rol xs => (xs.mapM (toPy st n)).map .list
  | n + 1, .loc l => match st[l]? with
    | some (.lst xs) => (xs.mapM (toPy st n)).map .list
    | _ => none
  | _ + 1, .ty _ => none
  | _ + 1, .exc _ _ _ => none
theorem mapM_cons {α β : Type} {f : α → Option β} {x : α} {xs : List α} {q : List β} (h : (x :: xs).mapM f = some q) : ∃ y ys, f x = some y ∧ xs.mapM f = some ys ∧ q = y :: ys := by
  rw [List.mapM_cons] at h
  cases e : f x with
  | none => rw [e] at h; cases h
  | some y =>
    cases e2 : xs.mapM f with
    | none => rw [e, e2] at h; cases h
    | some ys => rw [e, e2] at h; exact ⟨y, ys, rfl, rfl, (Option.some.inj h).symm⟩
section
variable {K : PySem.W.Frag} {m : List Addr} {H : Hp} {st : Sto}
theorem dp_all (n : Nat) (ih : ∀ (d : D) (v : V) (p : PyData), Rp K m H d v → toPy st n d = some p → Dp K H v p) : ∀ (xs : List D) (vs : List V) (ps : List PyData), RpL K m H xs vs → xs.mapM (toPy st n) = some ps → DpAll K H vs ps
  | [], _, ps, .nil, h => by
    have e : ps = [] := by simpa using h
    subst e; exact .nil
  | x :: xs, _, ps, .cons r t, h => by
    obtain ⟨y, ys, h1, h2, rfl⟩ := mapM_cons h
    exact .cons (ih x _ y r h1) (dp_all n ih xs _ ys t h2)
theorem dp_of (T : Tie K m H st) : ∀ (n : Nat) (d : D) (v : V) (p : PyData), Rp K m H d v → toPy st n d = some p → Dp K H v p
  | 0, _, _, _, _, h => by simp [toPy] at h
  | n + 1, .non, _, p, .non, h => by simp [toPy] at h; subst h; exact .non
  | n + 1, .bl b, _, p, .bl _, h => by simp [toPy] at h; subst h; exact .bl b
  | n + 1, .int b, _, p, .int _, h => by simp [toPy] at h; subst h; exact .int b
  | n + 1, .str b, _, p, .str _, h => by simp [toPy] at h; subst h; exact .str b
  | n + 1, .tup xs, _, p, .tup hq r, h => by
    rw [toPy] at h
    cases e : xs.mapM (toPy st n) with
    | none => rw [e] at h; cases h
    | some ps => rw [e] at h; cases h; exact .tup (SqT.of hq) (dp_all n (dp_of T n) xs _ ps r e)
  | n + 1, .ptp xs, _, p, .ptp hq r, h => by
    simp only [toPy] at h
    cases e : xs.mapM (toPy st n) with
    | none => rw [e] at h; cases h
    | some ps => rw [e] at h; cases h; exact .tup hq.sq (dp_all n (dp_of T n) xs _ ps r e)
  | n + 1, .rol xs, _, p, .rol hq r, h => by
    rw [toPy] at h
    cases e : xs.mapM (toPy st n) with
    | none => rw [e] at h; cases h
    | some ps => rw [e] at h; cases h; exact .lst hq.sq (dp_all n (dp_of T n) xs _ ps r e)
  | n + 1, .loc l, _, p, .loc hl, h => by
    rw [toPy] at h
    split at h
    · rename_i xs hc
      obtain ⟨a, ha, hcell⟩ := T.addr hc
      rw [hl] at ha; cases ha
      obtain ⟨vs, hv, r⟩ := hcell
      cases e : xs.mapM (toPy st n) with
      | none => rw [e] at h; cases h
      | some ps => rw [e] at h; cases h; exact .lst (SqL.of hv) (dp_all n (dp_of T n) xs _ ps r e)
    · cases h
  | n + 1, .ty _, _, p, .ty _, h => by simp [toPy] at h
  | n + 1, .exc _ _ _, _, p, _, h => by simp [toPy] at h
end
def gEq (neg : Bool) : D → D → M D := fun x y st => match toPy st 70 x, toPy st 70 y with
  | some p, some q => if (SeqAt.shaped p && SeqAt.shaped q) = true then some (.bl (if neg then !PyData.eqv p q else PyData.eqv p q), st) else none
  | _, _ => none
theorem sr_eq {K : PySem.W.Frag} : SR2 K (rEqD K) (gEq false) := by
  intro m H st x y dx dy Q d st' T rx ry h post
  unfold gEq at h
  split at h
  · rename_i p q h1 h2
    split at h
    · rename_i hs
      rw [Bool.and_eq_true] at hs
      cases h
      exact ⟨p, q, dp_of T 70 dx x p rx h1, dp_of T 70 dy y q ry h2, hs.1, hs.2, post m H _ .refl T (.bl _)⟩
    · cases h
  · cases h
theorem sr_ne {K : PySem.W.Frag} : SR2 K (rNeD K) (gEq true) := by
  intro m H st x y dx dy Q d st' T rx ry h post
  unfold gEq at h
  split at h
  · rename_i p q h1 h2
    split at h
    · rename_i hs
      rw [Bool.and_eq_true] at hs
      cases h
      exact ⟨p, q, dp_of T 70 dx x p rx h1, dp_of T 70 dy y q ry h2, hs.1, hs.2, post m H _ .refl T (.bl _)⟩
    · cases h
  · cases h
end Fe
namespace Fe
open PySem PySem.Spec PyProof.Rows L2

/-! ## the canonical readings -/
def tOf (K : PySem.W.Frag) (f : Fx) : TE := fun σ H Q => ∃ (m : List Addr) (st : Sto) (r : DEnv) (d : D) (st' : Sto), Tie K m H st ∧ EnvR K m H r σ ∧ f r st = some (d, st') ∧ Pst K m H st' d Q
def tOfT (K : PySem.W.Frag) (f : Ft) : TT := fun σ H Q => ∃ (m : List Addr) (st : Sto) (r : DEnv) (d : Bool) (st' : Sto), Tie K m H st ∧ EnvR K m H r σ ∧ f r st = some (d, st') ∧
  ∀ (m' : List Addr) (H' : Hp), Le m H m' H' → Tie K m' H' st' → Q d H'
theorem FE.can {X : Cx} {e : Expr} {f : Fx} (h : FE X e f) : PE X e (tOf X.K f) := by
  obtain ⟨t, p, s⟩ := h
  exact ⟨fun pins sh σ H Q I ⟨m, st, r, d, st', T, E, hf, post⟩ => p.run pins sh σ H Q I (s m H st r σ Q d st' T E hf post)⟩
theorem FT.can {X : Cx} {e : Expr} {f : Ft} (h : FT X e f) : PT X e (tOfT X.K f) := by
  obtain ⟨t, p, s⟩ := h
  exact ⟨fun pins sh σ H Q I ⟨m, st, r, d, st', T, E, hf, post⟩ => p.run pins sh σ H Q I (s m H st r σ Q d st' T E hf post)⟩

/-! ## targets -/
def Off (sl : List Nat) (σ σ' : L2.St) : Prop := σ'.length = σ.length ∧ ∀ i, i ∉ sl → σ'[i]? = σ[i]?
abbrev Fg := D → DEnv → M DEnv
def SndG (K : PySem.W.Frag) (t : TG) (sl : List Nat) (g : Fg) : Prop :=
  ∀ (m : List Addr) (H : Hp) (st : Sto) (r : DEnv) (σ : L2.St) (v : V) (d : D) (Q : L2.St → Hp → Prop) (r' : DEnv) (st' : Sto), Tie K m H st → EnvR K m H r σ → Rp K m H d v → g d r st = some (r', st') →
    (∀ (m' : List Addr) (H' : Hp) (σ' : L2.St), Le m H m' H' → Tie K m' H' st' → EnvR K m' H' r' σ' → Off sl σ σ' → Q σ' H') → t v σ H Q
def FG (X : Cx) (tg : Expr) (sl : List Nat) (g : Fg) : Prop := ∃ t, PG X tg t ∧ SndG X.K t sl g
def tOfG (K : PySem.W.Frag) (sl : List Nat) (g : Fg) : TG := fun v σ H Q => ∃ (m : List Addr) (st : Sto) (r : DEnv) (d : D) (r' : DEnv) (st' : Sto), Tie K m H st ∧ EnvR K m H r σ ∧ Rp K m H d v ∧ g d r st = some (r', st') ∧
  ∀ (m' : List Addr) (H' : Hp) (σ' : L2.St), Le m H m' H' → Tie K m' H' st' → EnvR K m' H' r' σ' → Off sl σ σ' → Q σ' H'
theorem FG.can {X : Cx} {e : Expr} {sl : List Nat} {f : Fg} (h : FG X e sl f) : PG X e (tOfG X.K sl f) := by
  obtain ⟨t, p, s⟩ := h
  exact ⟨fun pins sh σ H v u Q I rv ⟨m, st, r, d, r', st', T, E, rd, hf, post⟩ => p.run pins sh σ H v u Q I rv (s m H st r σ v d Q r' st' T E rd hf post)⟩
def gtName (i : Nat) : Fg := fun d r => ret (r.set i (some d))
theorem fg_name {X : Cx} {i : Nat} {x : Str} {pos : Pos} (hN : X.N.Nodup) (hi : X.N[i]? = some x) (hx : Loc X.env.scope x) (hf : X.fn x = true ∨ X.env.scope.names.lookup x = some .local := by first | exact .inl rfl | exact .inr rfl | assumption) : FG X (.Name x pos) [i] (gtName i) := by
  refine ⟨_, pg_name hN hi hx hf, fun m H st r σ v d Q r' st' T E rd h post => ?_⟩
  cases h
  refine post m H _ .refl T (E.set rd) ⟨by rw [List.length_set], fun j hj => ?_⟩
  have hne : i ≠ j := fun e => hj (by rw [e]; exact List.mem_singleton.mpr rfl)
  rw [List.getElem?_set_ne hne]
abbrev Fgs := List D → DEnv → M DEnv
def SndGs (K : PySem.W.Frag) (t : TGs) (sl : List Nat) (g : Fgs) : Prop :=
  ∀ (m : List Addr) (H : Hp) (st : Sto) (r : DEnv) (σ : L2.St) (vs : List V) (ds : List D) (Q : L2.St → Hp → Prop) (r' : DEnv) (st' : Sto), Tie K m H st → EnvR K m H r σ → RpL K m H ds vs → g ds r st = some (r', st') →
    (∀ (m' : List Addr) (H' : Hp) (σ' : L2.St), Le m H m' H' → Tie K m' H' st' → EnvR K m' H' r' σ' → Off sl σ σ' → Q σ' H') → t vs σ H Q
def FGs (X : Cx) (tg : List Expr) (sl : List Nat) (g : Fgs) : Prop := ∃ t, PGs X tg t ∧ SndGs X.K t sl g
def gsNil : Fgs := fun ds r => match ds with
  | [] => ret r
  | _ => stuck
def gsCons (g : Fg) (gs : Fgs) : Fgs := fun ds r => match ds with
  | d :: ds => bnd (g d r) fun r1 => gs ds r1
  | [] => stuck
theorem fgs_nil {X : Cx} : FGs X [] [] gsNil := by
  refine ⟨_, pgs_nil, fun m H st r σ vs ds Q r' st' T E rd h post => ?_⟩
  cases rd with
  | nil => cases h; exact ⟨rfl, post m H _ .refl T E ⟨rfl, fun _ _ => rfl⟩⟩
  | cons _ _ => cases h
theorem fgs_cons {X : Cx} {e : Expr} {es : List Expr} {sl sl' : List Nat} {g : Fg} {gs : Fgs} (h1 : FG X e sl g) (h2 : FGs X es sl' gs)
    (hs : (assignEach (e :: es) X.env).map (·.2) = assign e X.env :: (assignEach es X.env).map (·.2) := by rfl) : FGs X (e :: es) (sl ++ sl') (gsCons g gs) := by
  obtain ⟨t, p, s⟩ := h1
  obtain ⟨u, p', s'⟩ := h2
  refine ⟨_, pgs_cons p p' hs, fun m H st r σ vs ds Q r' st' T E rd h post => ?_⟩
  cases rd with
  | nil => cases h
  | cons rv rs =>
    obtain ⟨r1, s1, h1, h⟩ := bnd_some h
    refine ⟨_, _, rfl, s m H st r σ _ _ _ r1 s1 T E rv h1 fun m1 H1 σ1 l1 T1 E1 k1 => ?_⟩
    refine s' m1 H1 s1 r1 σ1 _ _ _ r' st' T1 E1 (RpL.mono l1 _ _ rs) h fun m2 H2 σ2 l2 T2 E2 k2 => ?_
    refine post m2 H2 σ2 (l1.trans l2) T2 E2 ⟨k2.1.trans k1.1, fun i hi => ?_⟩
    rw [k2.2 i fun z => hi (List.mem_append_right _ z), k1.2 i fun z => hi (List.mem_append_left _ z)]
def gtTup (n : Nat) (gs : Fgs) : Fg := fun d r => match d with
  | .tup ds => if ds.length = n then gs ds r else stuck
  | .ptp ds => if ds.length = n then gs ds r else stuck
  | _ => stuck
theorem fg_tup {X : Cx} {es : List Expr} {k n : Nat} {pos : Pos} {sl : List Nat} {gs : Fgs} (hc : X.calm = true) (h : FGs X es sl gs) (hn : (assignEach es X.env).length = n := by rfl) (hst : (assignEach es X.env).findIdx? (·.1) = none := by rfl) : FG X (.Tuple es k pos) sl (gtTup n gs) := by
  obtain ⟨t, p, s⟩ := h
  refine ⟨_, pg_tup hc p hn hst, fun m H st r σ v d Q r' st' T E rd h post => ?_⟩
  cases rd with
  | tup hq rs =>
    unfold gtTup at h
    simp only at h
    split at h
    · rename_i hl
      exact ⟨_, _, rfl, SqT.of hq, by rw [← rs.length]; exact hl, s m H st r σ _ _ _ r' st' T E rs h post⟩
    · cases h
  | ptp hq rs =>
    unfold gtTup at h
    simp only at h
    split at h
    · rename_i hl
      exact ⟨_, _, rfl, hq.sq, by rw [← rs.length]; exact hl, s m H st r σ _ _ _ r' st' T E rs h post⟩
    · cases h
  | _ => cases h

/-! ## what a loop goes over -/
/-- what of the heap a thing rests on goes on: its cells' places, tuples, locked objects -/
structure Lw (m : List Addr) (H : Hp) (m' : List Addr) (H' : Hp) : Prop where
  pre : ∀ (l : Nat) (a : Addr), m[l]? = some a → m'[l]? = some a
  tup : ∀ (a : Addr) (xs : List V), H a = some (.tup xs) → H' a = some (.tup xs)
  frz : ∀ (a : Addr) (o : Obj) (u : HO), H a = some (.frz o u) → H' a = some (.frz o u)
theorem Le.w {m m' : List Addr} {H H' : Hp} (h : Le m H m' H') : Lw m H m' H' := ⟨h.pre, h.tup, h.frz⟩
theorem Lw.trans {m1 m2 m3 : List Addr} {H1 H2 H3 : Hp} (a : Lw m1 H1 m2 H2) (b : Lw m2 H2 m3 H3) : Lw m1 H1 m3 H3 := ⟨fun l x h => b.pre l x (a.pre l x h), fun x xs h => b.tup x xs (a.tup x xs h), fun x o u h => b.frz x o u (a.frz x o u h)⟩
theorem SqT.monoW {K : PySem.W.Frag} {m m' : List Addr} {H H' : Hp} (le : Lw m H m' H') {a : Addr} {vs : List V} (h : SqT K H a vs) : SqT K H' a vs := by
  rcases h with h | h
  · rcases h with h | ⟨o, h⟩
    · exact .inl (.inl (le.tup _ _ h))
    · exact .inl (.inr ⟨o, le.frz _ _ _ h⟩)
  · exact .inr h
theorem RoL.monoW {K : PySem.W.Frag} {m m' : List Addr} {H H' : Hp} (le : Lw m H m' H') {a : Addr} {vs : List V} (h : RoL K H a vs) : RoL K H' a vs := by
  rcases h with ⟨o, h⟩ | h
  · exact .inl ⟨o, le.frz _ _ _ h⟩
  · exact .inr h
mutual
theorem Rp.monoW {K : PySem.W.Frag} {m m' : List Addr} {H H' : Hp} (le : Lw m H m' H') : ∀ (d : D) (v : V), Rp K m H d v → Rp K m' H' d v
  | _, _, .non => .non
  | _, _, .bl b => .bl b
  | _, _, .int i => .int i
  | _, _, .str x => .str x
  | _, _, .tup (xs := xs) (vs := vs) h r => .tup (le.tup _ _ h) (RpL.monoW le xs vs r)
  | _, _, .ptp (xs := xs) (vs := vs) h r => .ptp (h.mono le.frz) (RpL.monoW le xs vs r)
  | _, _, .exc (xs := xs) (vs := vs) h r => .exc (h.mono le.frz) (RpL.monoW le xs vs r)
  | _, _, .rol (xs := xs) (vs := vs) h r => .rol (RoL.monoW le h) (RpL.monoW le xs vs r)
  | _, _, .loc h => .loc (le.pre _ _ h)
  | _, _, .ty n => .ty n
theorem RpL.monoW {K : PySem.W.Frag} {m m' : List Addr} {H H' : Hp} (le : Lw m H m' H') : ∀ (ds : List D) (vs : List V), RpL K m H ds vs → RpL K m' H' ds vs
  | _, _, .nil => .nil
  | _, _, .cons r t => .cons (Rp.monoW le _ _ r) (RpL.monoW le _ _ t)
end
def JOk (K : PySem.W.Frag) (J : It) (m : List Addr) (H : Hp) (ds : List D) (ok : Sto → Bool) : Prop :=
  ∀ (m1 : List Addr) (H1 : Hp) (st : Sto), Lw m H m1 H1 → Tie K m1 H1 st → ok st = true → ∀ i : Nat,
    (∀ d, ds[i]? = some d → J.go i H1 ∧ ∀ x H2, J.yld i H1 x H2 → Le m1 H1 m1 H2 ∧ Tie K m1 H2 st ∧ Rp K m1 H2 d x) ∧ (ds.length = i → J.stop i H1)
abbrev Fi := DEnv → M (List D × (Sto → Bool))
def SndI (K : PySem.W.Frag) (wi : TI) (it : Fi) : Prop :=
  ∀ (m : List Addr) (H : Hp) (st : Sto) (r : DEnv) (σ : L2.St) (R : It → Hp → Prop) (ds : List D) (ok : Sto → Bool) (st' : Sto), Tie K m H st → EnvR K m H r σ → it r st = some ((ds, ok), st') →
    (∀ (m' : List Addr) (H' : Hp) (J : It), Le m H m' H' → Tie K m' H' st' → JOk K J m' H' ds ok → R J H') → wi σ H R
def FI (X : Cx) (tg iter : Expr) (it : Fi) : Prop := ∃ wi, PI X tg iter wi ∧ SndI X.K wi it
theorem FI.mk2 {X : Cx} {tg iter : Expr} {wi : TI} {it : Fi} (h : PI X tg iter wi) (s : SndI X.K wi it) : FI X tg iter it := ⟨_, h, s⟩

/-! ## for, while -/
def forF (g : Fg) (body : Fs) (ok : Sto → Bool) : List D → Fs
  | [], r => fun st => if ok st = true then some (.nx r, st) else none
  | d :: ds, r => fun st => if ok st = true then bnd (g d r) (fun r1 => bnd (body r1) fun o => match o with
    | .nx r2 => forF g body ok ds r2
    | .ct r2 => forF g body ok ds r2
    | .bk r2 => ret (.nx r2)
    | .rt x => ret (.rt x)) st else none
theorem forF_nil {g : Fg} {body : Fs} {ok : Sto → Bool} {r : DEnv} {st : Sto} : forF g body ok [] r st = if ok st = true then some (.nx r, st) else none := rfl
theorem forF_cons {g : Fg} {body : Fs} {ok : Sto → Bool} {d : D} {ds : List D} {r : DEnv} {st : Sto} : forF g body ok (d :: ds) r st = if ok st = true then bnd (g d r) (fun r1 => bnd (body r1) fun o => match o with
    | .nx r2 => forF g body ok ds r2
    | .ct r2 => forF g body ok ds r2
    | .bk r2 => ret (.nx r2)
    | .rt x => ret (.rt x)) st else none := rfl
def sFor (it : Fi) (g : Fg) (body : Fs) : Fs := fun r => bnd (it r) fun p => forF g body p.2 p.1 r
theorem fs_for {X : Cx} {tg iter : Expr} {body : List Stmt} {it : Fi} {sl : List Nat} {g : Fg} {fb : Fs} {pos : Pos} (hp : PassesOwn (model X.prog X.w) X.A X.env X.xe) (hc : X.calm = true) (hi : FI X tg iter it) (hg : FG X tg sl g) (hb : FSs X body fb)
    (hs : ∀ x, foldedSetIterable iter X.env x = pure x := by intro _; rfl) : FS X (.For tg iter body [] pos) (sFor it g fb) := by
  obtain ⟨wi, pi, si⟩ := hi
  obtain ⟨tgr, pg, sg⟩ := hg
  obtain ⟨tb, pb, sb⟩ := hb
  refine ⟨_, ps_for hp hc pi pg pb hs, fun m H st r σ D0 o st' T E h post => ?_⟩
  obtain ⟨⟨ds, ok⟩, s1, h1, h⟩ := bnd_some h
  refine si m H st r σ _ ds ok s1 T E h1 fun m1 H1 J l1 T1 hJ => ?_
  refine ⟨fun i k σ2 H2 => ∃ (m2 : List Addr) (st2 : Sto) (r2 : DEnv), Le m1 H1 m2 H2 ∧ Tie X.K m2 H2 st2 ∧ EnvR X.K m2 H2 r2 σ2 ∧ forF g fb ok (ds.drop i) r2 st2 = some (o, st') ∧ i ≤ ds.length ∧ k = ds.length - i,
    ⟨_, m1, s1, r, .refl, T1, E.mono l1, by simpa using h, Nat.zero_le _, rfl⟩, ?_⟩
  rintro i k σ2 H2 ⟨m2, st2, r2, l2, T2, E2, h2, hle, rfl⟩
  have mt : Meets X.K m2 H2 D0 st' o := Meets.le (l1.trans l2) post
  by_cases hlt : i < ds.length
  · rw [List.drop_eq_getElem_cons hlt, forF_cons] at h2
    split at h2
    · rename_i hok
      obtain ⟨r3, s3, h3, h2⟩ := bnd_some h2
      obtain ⟨o4, s4, h4, h2⟩ := bnd_some h2
      obtain ⟨go, yl⟩ := (hJ m2 H2 st2 l2.w T2 hok i).1 _ (List.getElem?_eq_getElem hlt)
      refine .inr ⟨go, fun σ' H' => ∃ (m' : List Addr) (st'' : Sto) (r' : DEnv), Le m1 H1 m' H' ∧ Tie X.K m' H' st'' ∧ EnvR X.K m' H' r' σ' ∧ forF g fb ok (ds.drop (i + 1)) r' st'' = some (o, st'),
        fun σ' H' ⟨m', st'', r', a1, a2, a3, a4⟩ => ⟨ds.length - (i + 1), by omega, m', st'', r', a1, a2, a3, a4, hlt, rfl⟩, fun x H3 y => ?_⟩
      obtain ⟨l3, T3, rx⟩ := yl x H3 y
      refine sg m2 H3 st2 r2 σ2 x _ _ r3 s3 T3 (E2.mono l3) rx h3 fun m4 H4 σ4 l4 T4 E4 _ => ?_
      refine sb m4 H4 s3 r3 σ4 _ o4 s4 T4 E4 h4 ?_
      have lle := l2.trans (l3.trans l4)
      cases o4 with
      | nx r5 => exact fun m5 H5 σ5 l5 T5 E5 => ⟨m5, s4, r5, lle.trans l5, T5, E5, h2⟩
      | ct r5 => exact fun m5 H5 σ5 l5 T5 E5 => ⟨m5, s4, r5, lle.trans l5, T5, E5, h2⟩
      | bk r5 =>
        cases h2
        exact fun m5 H5 σ5 l5 T5 E5 => mt m5 H5 σ5 (l3.trans (l4.trans l5)) T5 E5
      | rt d5 =>
        cases h2
        exact fun m5 H5 v5 l5 T5 E5 => mt m5 H5 v5 (l3.trans (l4.trans l5)) T5 E5
    · cases h2
  · rw [List.drop_eq_nil_of_le (by omega), forF_nil] at h2
    split at h2
    · rename_i hok
      cases h2
      exact .inl ⟨(hJ m2 H2 _ l2.w T2 hok i).2 (by omega), mt m2 H2 σ2 .refl T2 E2⟩
    · cases h2

/-! ## [e for x in xs if ..] -/
def wipeD (r : DEnv) : List Nat → DEnv
  | [] => r
  | v :: vs => (wipeD r vs).set v none
theorem wipe_at {σ : L2.St} : ∀ (vs : List Nat) (i : Nat), (wipe σ vs)[i]? = if i ∈ vs ∧ i < σ.length then some none else σ[i]?
  | [], i => by simp [wipe]
  | v :: vs, i => by
    rw [wipe, List.getElem?_set]
    rw [wipe_length]
    by_cases h : v = i
    · subst h
      by_cases hl : v < σ.length
      · simp [hl]
      · simp [hl]
    · rw [if_neg h, wipe_at vs i]
      have e : (i ∈ v :: vs ∧ i < σ.length) ↔ (i ∈ vs ∧ i < σ.length) := by
        constructor
        · rintro ⟨a, b⟩
          rcases List.mem_cons.mp a with z | z
          · exact absurd z.symm h
          · exact ⟨z, b⟩
        · rintro ⟨a, b⟩; exact ⟨List.mem_cons_of_mem _ a, b⟩
      by_cases hc : i ∈ vs ∧ i < σ.length
      · rw [if_pos hc, if_pos (e.mpr hc)]
      · rw [if_neg hc, if_neg (fun z => hc (e.mp z))]
theorem wipe_again {σ τ : L2.St} {vs : List Nat} (hl : τ.length = σ.length) (h : ∀ i, i ∉ vs → τ[i]? = (wipe σ vs)[i]?) : wipe τ vs = wipe σ vs := by
  apply List.ext_getElem?
  intro i
  rw [wipe_at, wipe_at, hl]
  by_cases hc : i ∈ vs ∧ i < σ.length
  · rw [if_pos hc, if_pos hc]
  · rw [if_neg hc, if_neg hc]
    by_cases hv : i ∈ vs
    · have hn : σ.length ≤ i := by
        by_cases hq : i < σ.length
        · exact absurd ⟨hv, hq⟩ hc
        · omega
      rw [List.getElem?_eq_none hn, List.getElem?_eq_none (by omega)]
    · rw [h i hv, wipe_at, if_neg hc]
theorem EnvR.wipe {K : PySem.W.Frag} {m : List Addr} {H : Hp} {r : DEnv} {σ : L2.St} (E : EnvR K m H r σ) : ∀ vs : List Nat, EnvR K m H (wipeD r vs) (L2.wipe σ vs)
  | [] => E
  | v :: vs => by
    have ih := E.wipe vs
    refine ⟨by rw [wipeD, L2.wipe, List.length_set, List.length_set]; exact ih.len, fun i d h => ?_⟩
    rw [wipeD, List.getElem?_set] at h
    rw [L2.wipe, List.getElem?_set]
    by_cases hv : v = i
    · subst hv
      rw [if_pos rfl] at h
      split at h <;> cases h
    · rw [if_neg hv] at h
      rw [if_neg hv]
      exact ih.at_ i d h
def FTs (X : Cx) (ifs : List Expr) (f : Ft) : Prop := ∃ t, PTs X ifs t ∧ SndT X.K t f
def tYesF : Ft := fun _ => ret true
theorem FTs.can {X : Cx} {e : List Expr} {f : Ft} (h : FTs X e f) : PTs X e (tOfT X.K f) := by
  obtain ⟨t, p, s⟩ := h
  exact ⟨fun pins sh σ H Q I ⟨m, st, r, d, st', T, E, hf, post⟩ => p.run pins sh σ H Q I (s m H st r σ Q d st' T E hf post)⟩
theorem fts_nil {X : Cx} : FTs X [] tYesF := ⟨_, pts_nil, fun m H st r σ Q d st' T E h post => by cases h; exact post m H .refl T⟩
theorem fts_one {X : Cx} {c : Expr} {f : Ft} (h : FT X c f) : FTs X [c] f := let ⟨t, p, s⟩ := h; ⟨_, pts_one p, s⟩
def lcF (g : Fg) (tt : Ft) (te : Fx) (ok : Sto → Bool) (r : DEnv) : List D → List D → M (List D)
  | [], acc => fun st => if ok st = true then some (acc, st) else none
  | d :: ds, acc => fun st => if ok st = true then bnd (g d r) (fun r1 => bnd (tt r1) fun b =>
      if b = true then bnd (te r1) fun y => if acc.length < sizeLine then lcF g tt te ok r ds (acc ++ [y]) else stuck
      else lcF g tt te ok r ds acc) st else none
theorem lcF_nil {g : Fg} {tt : Ft} {te : Fx} {ok : Sto → Bool} {r : DEnv} {acc : List D} {st : Sto} : lcF g tt te ok r [] acc st = if ok st = true then some (acc, st) else none := rfl
theorem lcF_cons {g : Fg} {tt : Ft} {te : Fx} {ok : Sto → Bool} {r : DEnv} {d : D} {ds acc : List D} {st : Sto} : lcF g tt te ok r (d :: ds) acc st = if ok st = true then bnd (g d r) (fun r1 => bnd (tt r1) fun b =>
      if b = true then bnd (te r1) fun y => if acc.length < sizeLine then lcF g tt te ok r ds (acc ++ [y]) else stuck
      else lcF g tt te ok r ds acc) st else none := rfl
def eLc (it : Fi) (g : Fg) (tt : Ft) (te : Fx) (vs : List Nat) : Fx := fun r => bnd (it r) fun p => bnd (lcF g tt te p.2 (wipeD r vs) p.1 []) fun acc st => some (.loc st.length, st ++ [.lst acc])
section
variable {K : PySem.W.Frag} {m m1 : List Addr} {H H1 : Hp} {st : Sto}
/-- a list beside the cells that grows -/
theorem Rp.off {a : Addr} {o : HO} {u : HO} (hu : H a = some u) (mu : isMut u = true) : ∀ (d : D) (v : V), Rp K m H d v → Rp K m (upd H a o) d v := fun d v r => by
  have tl : ∀ x xs, H x = some (.tup xs) → upd H a o x = some (.tup xs) := fun x xs e => by
    have nx : x ≠ a := by intro z; subst z; rw [hu] at e; cases e; cases mu
    rw [upd_ne nx]; exact e
  have fl : ∀ x o' u', H x = some (.frz o' u') → upd H a o x = some (.frz o' u') := fun x o' u' e => by
    have nx : x ≠ a := by intro z; subst z; rw [hu] at e; cases e; cases mu
    rw [upd_ne nx]; exact e
  induction r using Rp.rec (motive_2 := fun ds vs _ => RpL K m (upd H a o) ds vs) with
  | non => exact .non
  | bl b => exact .bl b
  | int b => exact .int b
  | str b => exact .str b
  | tup h r ih =>
    exact .tup (tl _ _ h) ih
  | ptp h r ih => exact .ptp (h.mono fl) ih
  | exc h r ih => exact .exc (h.mono fl) ih
  | rol h r ih =>
    refine .rol ?_ ih
    rcases h with ⟨o', h⟩ | h
    · exact .inl ⟨o', fl _ _ _ h⟩
    · exact .inr h
  | loc h => exact .loc h
  | ty n => exact .ty n
  | nil => exact .nil
  | cons _ _ i1 i2 => exact .cons i1 i2
theorem RpL.off {a : Addr} {o : HO} {u : HO} (hu : H a = some u) (mu : isMut u = true) : ∀ (ds : List D) (vs : List V), RpL K m H ds vs → RpL K m (upd H a o) ds vs
  | _, _, .nil => .nil
  | _, _, .cons r t => .cons (Rp.off hu mu _ _ r) (RpL.off hu mu _ _ t)
theorem RpKv.off {κ : Type} {a : Addr} {o : HO} {u : HO} (hu : H a = some u) (mu : isMut u = true) : ∀ {x : List (κ × D)} {y : List (κ × V)}, RpKv K m H x y → RpKv K m (upd H a o) x y
  | _, _, .nil => .nil
  | _, _, .cons r t => .cons ⟨r.1, Rp.off hu mu _ _ r.2⟩ (RpKv.off hu mu t)
theorem Tie.off (T : Tie K m H st) {a : Addr} {o u : HO} (ha : a ∉ m) (hu : H a = some u) (mu : isMut u = true) : Tie K m (upd H a o) st := by
  refine ⟨T.len, T.nd, fun l b c h1 h2 => ?_⟩
  have nb : b ≠ a := fun e => ha (by rw [← e]; exact List.mem_of_getElem? h1)
  have q := T.at_ l b c h1 h2
  cases c with
  | lst xs => obtain ⟨vs, e, r⟩ := q; exact ⟨vs, by rw [upd_ne nb]; exact e, RpL.off hu mu _ _ r⟩
  | dct xs => obtain ⟨vs, e, r⟩ := q; exact ⟨vs, by rw [upd_ne nb]; exact e, RpKv.off hu mu r⟩
  | dtt xs => obtain ⟨vs, e, r⟩ := q; exact ⟨vs, by rw [upd_ne nb]; exact e, RpKv.off hu mu r⟩
theorem Le.off (le : Le m1 H1 m H) {a : Addr} {o : HO} (ha : H1 a = none) : Le m1 H1 m (upd H a o) :=
  ⟨le.pre, fun x xs e => by rw [upd_ne (ne_of_none e ha)]; exact le.tup x xs e, fun x o' u e => by rw [upd_ne (ne_of_none e ha)]; exact le.frz x o' u e, fun x o' e n => by rw [upd_ne (ne_of_none e ha)]; exact le.oth x o' e n, le.fresh⟩
theorem EnvR.off {r : DEnv} {σ : L2.St} (E : EnvR K m H r σ) {a : Addr} {o u : HO} (hu : H a = some u) (mu : isMut u = true) : EnvR K m (upd H a o) r σ :=
  ⟨E.len, fun i d h => let ⟨v, e, q⟩ := E.at_ i d h; ⟨v, e, Rp.off hu mu _ _ q⟩⟩
/-- it becomes a cell -/
theorem Tie.adopt (T : Tie K m H st) {a : Addr} {ds : List D} {vs : List V} (ha : a ∉ m) (hu : H a = some (.lst vs)) (r : RpL K m H ds vs) (le : Le m1 H1 m H) (hn : H1 a = none) :
    Tie K (m ++ [a]) H (st ++ [.lst ds]) ∧ Le m1 H1 (m ++ [a]) H := by
  have pre : ∀ (l : Nat) (b : Addr), m[l]? = some b → (m ++ [a])[l]? = some b := fun l b h => by rw [List.getElem?_append_left (List.getElem?_eq_some_iff.mp h).1]; exact h
  have mono : ∀ (d : D) (v : V), Rp K m H d v → Rp K (m ++ [a]) H d v := fun d v r => by
    induction r using Rp.rec (motive_2 := fun ds vs _ => RpL K (m ++ [a]) H ds vs) with
    | non => exact .non
    | bl b => exact .bl b
    | int b => exact .int b
    | str b => exact .str b
    | tup h r ih => exact .tup h ih
    | ptp h r ih => exact .ptp h ih
    | exc h r ih => exact .exc h ih
    | rol h r ih => exact .rol h ih
    | loc h => exact .loc (pre _ _ h)
    | ty n => exact .ty n
    | nil => exact .nil
    | cons _ _ i1 i2 => exact .cons i1 i2
  have monoL : ∀ (ds : List D) (vs : List V), RpL K m H ds vs → RpL K (m ++ [a]) H ds vs := fun ds => by
    induction ds with
    | nil => intro vs r; cases r; exact .nil
    | cons d ds ih => intro vs r; cases r with | cons r t => exact .cons (mono _ _ r) (ih _ t)
  refine ⟨⟨by rw [List.length_append, List.length_append, T.len]; rfl, ?_, fun l b c h1 h2 => ?_⟩, ⟨fun l b h => pre l b (le.pre l b h), le.tup, le.frz, le.oth, fun b hb n => ?_⟩⟩
  · rw [List.nodup_append]
    refine ⟨T.nd, by simp, fun x hx b hb => ?_⟩
    have e : b = a := by simpa using hb
    subst e
    exact fun z => ha (by rw [← z]; exact hx)
  · by_cases hl : l < m.length
    · rw [List.getElem?_append_left hl] at h1
      rw [List.getElem?_append_left (by rw [← T.len]; exact hl)] at h2
      have q := T.at_ l b c h1 h2
      cases c with
      | lst xs => obtain ⟨ws, e, r⟩ := q; exact ⟨ws, e, monoL _ _ r⟩
      | dct xs =>
        obtain ⟨ws, e, r⟩ := q
        refine ⟨ws, e, ?_⟩
        clear e h1 h2
        induction r with
        | nil => exact .nil
        | cons p _ ih => exact .cons ⟨p.1, mono _ _ p.2⟩ ih
      | dtt xs =>
        obtain ⟨ws, e, r⟩ := q
        refine ⟨ws, e, ?_⟩
        clear e h1 h2
        induction r with
        | nil => exact .nil
        | cons p _ ih => exact .cons ⟨p.1, mono _ _ p.2⟩ ih
    · have hl2 : m.length ≤ l := by omega
      rw [List.getElem?_append_right hl2] at h1
      rw [List.getElem?_append_right (by rw [← T.len]; exact hl2)] at h2
      have z : l - m.length = 0 := by
        cases e : l - m.length with
        | zero => rfl
        | succ k => rw [e] at h1; simp at h1
      rw [z] at h1
      rw [← T.len, z] at h2
      simp at h1 h2
      subst h1; subst h2
      exact ⟨vs, hu, monoL _ _ r⟩
  · rcases List.mem_append.mp hb with z | z
    · exact le.fresh b z n
    · have e : b = a := by simpa using z
      rw [e]; exact hn
end
theorem snd_lc {K : PySem.W.Frag} {wi : TI} {it : Fi} {vsl : List Nat} {sl : List Nat} {g : Fg} {ft : Ft} {fe : Fx} (si : SndI K wi it) (hsl : ∀ i ∈ sl, i ∈ vsl) :
    Snd K (tLc wi (tOfG K sl g) (tOfT K ft) (tOf K fe) vsl) (eLc it g ft fe vsl) := by
  intro m H st r σ Q d st' T E h post
  obtain ⟨⟨ds, okf⟩, s1, h1, h⟩ := bnd_some h
  obtain ⟨acc, s2, h2, h⟩ := bnd_some h
  cases h
  refine si m H st r σ _ ds okf s1 T E h1 fun m1 H1 J l1 T1 hJ L hL => ?_
  have E1 : EnvR K m1 H1 (wipeD r vsl) (L2.wipe σ vsl) := (E.mono l1).wipe _
  refine ⟨fun i k H2 => ∃ (m2 : List Addr) (st2 : Sto) (done : List D) (vs : List V), Le m1 H1 m2 H2 ∧ Tie K m2 H2 st2 ∧ L ∉ m2 ∧ H2 L = some (.lst vs) ∧ RpL K m2 H2 done vs ∧
      lcF g ft fe okf (wipeD r vsl) (ds.drop i) done st2 = some (acc, s2) ∧ i ≤ ds.length ∧ k = ds.length - i,
    ⟨_, m1, s1, [], [], (Le.refl (m := m1) (H := H1)).off hL, T1.new hL, fun z => ?_, upd_same, .nil, by simpa using h2, Nat.zero_le _, rfl⟩, ?_⟩
  · obtain ⟨u, hu, _⟩ := T1.tracked z
    rw [hL] at hu; cases hu
  rintro i k H2 ⟨m2, st2, done, vs, l2, T2, nL, hv, rv, h3, hle, rfl⟩
  by_cases hlt : i < ds.length
  · rw [List.drop_eq_getElem_cons hlt, lcF_cons] at h3
    split at h3
    · rename_i hok
      obtain ⟨go, yl⟩ := (hJ m2 H2 st2 l2.w T2 hok i).1 _ (List.getElem?_eq_getElem hlt)
      obtain ⟨r1, s3, h4, h3⟩ := bnd_some h3
      obtain ⟨b, s4, h5, h3⟩ := bnd_some h3
      refine .inr ⟨go, fun H' => ∃ (m' : List Addr) (st'' : Sto) (done' : List D) (vs' : List V), Le m1 H1 m' H' ∧ Tie K m' H' st'' ∧ L ∉ m' ∧ H' L = some (.lst vs') ∧ RpL K m' H' done' vs' ∧
          lcF g ft fe okf (wipeD r vsl) (ds.drop (i + 1)) done' st'' = some (acc, s2),
        fun H' ⟨m', st'', done', vs', a1, a2, a3, a4, a5, a6⟩ => ⟨ds.length - (i + 1), by omega, m', st'', done', vs', a1, a2, a3, a4, a5, a6, hlt, rfl⟩, fun x H3 y => ?_⟩
      obtain ⟨l3, T3, rx⟩ := yl x H3 y
      refine ⟨m2, st2, _, _, r1, s3, T3, E1.mono (l2.trans l3), rx, h4, fun m4 H4 σ4 l4 T4 E4 k4 => ⟨?_, ?_⟩⟩
      · exact wipe_again (k4.1.trans (wipe_length _ _)) fun j hj => k4.2 j fun z => hj (hsl j z)
      · refine ⟨m4, s3, r1, b, s4, T4, E4, h5, fun m5 H5 l5 T5 => ?_⟩
        have l25 := l3.trans (l4.trans l5)
        have nL5 : L ∉ m5 := fun z => by
          have q := l25.fresh L z nL
          rw [hv] at q; cases q
        have hv5 : H5 L = some (.lst vs) := l25.oth L _ hv nL
        cases b with
        | false =>
          rw [if_neg Bool.false_ne_true] at h3
          exact iteF ⟨m5, s4, done, vs, l2.trans l25, T5, nL5, hv5, RpL.mono l25 _ _ rv, h3⟩
        | true =>
          rw [if_pos rfl] at h3
          obtain ⟨yv, s6, h6, h3⟩ := bnd_some h3
          split at h3
          · rename_i hsz
            refine iteT ⟨m5, s4, r1, yv, s6, T5, E4.mono l5, h6, fun m6 H6 w l6 T6 rw6 => ?_⟩
            have l26 := l25.trans l6
            have nL6 : L ∉ m6 := fun z => by
              have q := l26.fresh L z nL
              rw [hv] at q; cases q
            have hv6 : H6 L = some (.lst vs) := l26.oth L _ hv nL
            have rv6 := RpL.mono l26 _ _ rv
            refine ⟨vs, hv6, by rw [← rv6.length]; exact hsz, m6, s6, done ++ [yv], vs ++ [w], (l2.trans l26).off hL, T6.off nL6 hv6 rfl, nL6, upd_same, RpL.off hv6 rfl _ _ (RpL.app rv6 (.cons rw6 .nil)), h3⟩
          · cases h3
    · cases h3
  · rw [List.drop_eq_nil_of_le (by omega), lcF_nil] at h3
    split at h3
    · rename_i hok
      cases h3
      obtain ⟨T', le'⟩ := T2.adopt nL hv rv l2 hL
      refine .inl ⟨(hJ m2 H2 _ l2.w T2 hok i).2 (by omega), post _ H2 _ (l1.trans le') T' (.loc (by rw [← T2.len]; simp))⟩
    · cases h3
theorem fe_lc {X : Cx} {elt tg iter : Expr} {ifs : List Expr} {scope : Scope} {own : List (Str × Nat)} {pos : Pos} {it : Fi} {sl : List Nat} {g : Fg} {ft : Ft} {fe : Fx} (hc : X.calm = true) (hN : X.N.Nodup) (hi : FI X tg iter it) (ok : BlkOk X.N X.env.scope scope own)
    (hg : ∀ (s : Shared) (H : Hp) (C : Addr) (cl : List (Str × Addr)) (fp : List Addr), FG (X.blk s H scope (compEnvC scope cl C X.env) fp) tg sl g) (ht : ∀ (s : Shared) (H : Hp) (C : Addr) (cl : List (Str × Addr)) (fp : List Addr), FTs (X.blk s H scope (compEnvC scope cl C X.env) fp) ifs ft)
    (he : ∀ (s : Shared) (H : Hp) (C : Addr) (cl : List (Str × Addr)) (fp : List Addr), FE (X.blk s H scope (compEnvC scope cl C X.env) fp) elt fe) (hsl : ∀ i ∈ sl, i ∈ own.map (·.2)) (hs : ∀ x, foldedSetIterable iter X.env x = pure x := by intro _; rfl) :
    FE X (.ListComp elt [⟨tg, iter, ifs, 0⟩] scope pos) (eLc it g ft fe (own.map (·.2))) := by
  obtain ⟨wi, pi, si⟩ := hi
  exact ⟨_, pe_lc (g := tOfG X.K sl g) (tt := tOfT X.K ft) (te := tOf X.K fe) hc hN pi ok (fun s H C cl fp => (hg s H C cl fp).can) (fun s H C cl fp => (ht s H C cl fp).can) (fun s H C cl fp => (he s H C cl fp).can) hs, snd_lc si hsl⟩
end Fe
namespace Fe
open PySem PySem.Spec PyProof.Rows L2

/-! ## statements -/
def sNil : Fs := fun r => ret (.nx r)
def sSeq (g h : Fs) : Fs := fun r => bnd (g r) fun o => match o with
  | .nx r1 => h r1
  | o => ret o
def sNever : Fs := fun _ => stuck
def sExpr (f : Fx) : Fs := fun r => bnd (f r) fun _ => ret (.nx r)
def sRet (f : Fx) : Fs := fun r => bnd (f r) fun d => ret (.rt d)
def sAsg (f : Fx) (g : Fg) : Fs := fun r => bnd (f r) fun d => bnd (g d r) fun r1 => ret (.nx r1)
def sIf (c : Ft) (a b : Fs) : Fs := fun r => bnd (c r) fun k => if k = true then a r else b r
section
variable {X : Cx} {pos : Pos} {s : Stmt} {ss : List Stmt}
theorem fss_nil : FSs X [] sNil := ⟨_, pss_nil, fun m H st r σ D0 o st' T E h post => by cases h; exact post m H σ .refl T E⟩
theorem fss_cons {g h : Fs} (a : FS X s g) (b : FSs X ss h) : FSs X (s :: ss) (sSeq g h) := by
  obtain ⟨t, p, sa⟩ := a
  obtain ⟨u, q, sb⟩ := b
  refine ⟨_, pss_cons p q, fun m H st r σ D0 o st' T E hf post => ?_⟩
  obtain ⟨o1, s1, h1, hf⟩ := bnd_some hf
  cases o1 with
  | nx r1 => exact sa m H st r σ _ _ s1 T E h1 fun m1 H1 σ1 l1 T1 E1 => sb m1 H1 s1 r1 σ1 D0 o st' T1 E1 hf (Meets.le l1 post)
  | rt d => cases hf; exact sa m H st r σ _ _ _ T E h1 post
  | bk d => cases hf; exact sa m H st r σ _ _ _ T E h1 post
  | ct d => cases hf; exact sa m H st r σ _ _ _ T E h1 post
theorem fss_one {g : Fs} (a : FS X s g) : FSs X [s] g := let ⟨t, p, sa⟩ := a; ⟨_, pss_one p, sa⟩
theorem fss_never : FSs X ss sNever := ⟨_, pss_never, fun m H st r σ D0 o st' T E h post => by cases h⟩
theorem fs_never : FS X s sNever := ⟨_, ps_never, fun m H st r σ D0 o st' T E h post => by cases h⟩
theorem fs_pass : FS X (.Pass pos) sNil := ⟨_, ps_pass, fun m H st r σ D0 o st' T E h post => by cases h; exact post m H σ .refl T E⟩
theorem fs_break : FS X (.Break pos) (fun r => ret (.bk r)) := ⟨_, ps_break, fun m H st r σ D0 o st' T E h post => by cases h; exact post m H σ .refl T E⟩
theorem fs_continue : FS X (.Continue pos) (fun r => ret (.ct r)) := ⟨_, ps_continue, fun m H st r σ D0 o st' T E h post => by cases h; exact post m H σ .refl T E⟩
theorem fs_expr {e : Expr} {f : Fx} (h : FE X e f) (hs : swapsWith e none pos.line X.env = pure false := by rfl) : FS X (.Expr e pos) (sExpr f) := by
  obtain ⟨t, p, sa⟩ := h
  refine ⟨_, ps_expr p hs, fun m H st r σ D0 o st' T E hf post => ?_⟩
  obtain ⟨d, s1, h1, hf⟩ := bnd_some hf
  cases hf
  exact sa m H st r σ _ _ _ T E h1 fun m1 H1 v l1 T1 _ => post m1 H1 σ l1 T1 (E.mono l1)
theorem fs_ret {e : Expr} {f : Fx} (h : FE X e f) : FS X (.Return (some e) pos) (sRet f) := by
  obtain ⟨t, p, sa⟩ := h
  refine ⟨_, ps_ret p, fun m H st r σ D0 o st' T E hf post => ?_⟩
  obtain ⟨d, s1, h1, hf⟩ := bnd_some hf
  cases hf
  exact sa m H st r σ _ _ _ T E h1 post
theorem fs_retN : FS X (.Return none pos) (fun _ => ret (.rt .non)) := ⟨_, ps_retN, fun m H st r σ D0 o st' T E h post => by cases h; exact post m H _ .refl T .non⟩
theorem fs_if {c : Expr} {a b : List Stmt} {f : Ft} {g h : Fs} (hc : FT X c f) (ha : FSs X a g) (hb : FSs X b h) : FS X (.If c a b pos) (sIf f g h) := by
  obtain ⟨t, p, sc⟩ := hc
  obtain ⟨u, q, sa⟩ := ha
  obtain ⟨w, r', sb⟩ := hb
  refine ⟨_, ps_if p q r', fun m H st r σ D0 o st' T E hf post => ?_⟩
  obtain ⟨k, s1, h1, hf⟩ := bnd_some hf
  refine sc m H st r σ _ k s1 T E h1 fun m1 H1 l1 T1 => ?_
  cases k with
  | true => exact iteT (sa m1 H1 s1 r σ D0 o st' T1 (E.mono l1) hf (Meets.le l1 post))
  | false => exact iteF (sb m1 H1 s1 r σ D0 o st' T1 (E.mono l1) hf (Meets.le l1 post))
theorem fs_asg {tg e : Expr} {f : Fx} {sl : List Nat} {g : Fg} (he : FE X e f) (hg : FG X tg sl g) (hs : swapsWithSole [tg] e pos.line X.env = pure false := by rfl) (hw : swappedStores [tg] e X.env = pure none := by rfl)
    (h1 : (assignEach [tg] X.env).map (·.2) = [assign tg X.env] := by rfl) : FS X (.Assign [tg] e pos) (sAsg f g) := by
  obtain ⟨t, p, sa⟩ := he
  obtain ⟨u, q, sg⟩ := hg
  refine ⟨_, ps_asg p q hs hw h1, fun m H st r σ D0 o st' T E hf post => ?_⟩
  obtain ⟨d, s1, h2, hf⟩ := bnd_some hf
  obtain ⟨r1, s2, h3, hf⟩ := bnd_some hf
  cases hf
  refine sa m H st r σ _ _ _ T E h2 fun m1 H1 v l1 T1 rv => ?_
  exact sg m1 H1 s1 r σ v d _ r1 _ T1 (E.mono l1) rv h3 fun m2 H2 σ2 l2 T2 E2 _ => post m2 H2 σ2 (l1.trans l2) T2 E2
/-- name = [..] on one line -/
theorem fs_setLc {i : Nat} {y : Str} {py : Pos} {elt tg iter : Expr} {ifs : List Expr} {scope : Scope} {own : List (Str × Nat)} {spos : Pos} {it : Fi} {sl : List Nat} {g : Fg} {ft : Ft} {fe : Fx} (hc : X.calm = true) (hN : X.N.Nodup) (hy : X.N[i]? = some y) (hyl : X.env.scope.names.lookup y = some .local)
    (hsw : swapsWith (.ListComp elt [⟨tg, iter, ifs, 0⟩] scope pos) (some (.Name y py)) spos.line X.env = pure true) (hi : FI X tg iter it) (ok : BlkOk X.N X.env.scope scope own)
    (hg : ∀ (s : Shared) (H : Hp) (C : Addr) (cl : List (Str × Addr)) (fp : List Addr), FG (X.blk s H scope (compEnvC scope cl C X.env) fp) tg sl g) (ht : ∀ (s : Shared) (H : Hp) (C : Addr) (cl : List (Str × Addr)) (fp : List Addr), FTs (X.blk s H scope (compEnvC scope cl C X.env) fp) ifs ft)
    (he : ∀ (s : Shared) (H : Hp) (C : Addr) (cl : List (Str × Addr)) (fp : List Addr), FE (X.blk s H scope (compEnvC scope cl C X.env) fp) elt fe) (hsl : ∀ i ∈ sl, i ∈ own.map (·.2)) (hs : ∀ x, foldedSetIterable iter X.env x = pure x := by intro _; rfl) :
    FS X (.Assign [.Name y py] (.ListComp elt [⟨tg, iter, ifs, 0⟩] scope pos) spos) (sAsg (eLc it g ft fe (own.map (·.2))) (gtName i)) := by
  have base := fe_lc (pos := pos) hc hN hi ok hg ht he hsl hs
  obtain ⟨wi, pi, si⟩ := hi
  refine ⟨_, ps_setLc (g := tOfG X.K sl g) (tt := tOfT X.K ft) (te := tOf X.K fe) hc hN hy hyl hsw pi ok (fun s H C cl fp => (hg s H C cl fp).can) (fun s H C cl fp => (ht s H C cl fp).can) (fun s H C cl fp => (he s H C cl fp).can) hs, fun m H st r σ D0 o st' T E hf post => ?_⟩
  obtain ⟨d, s1, h2, hf⟩ := bnd_some hf
  obtain ⟨r1, s2, h3, hf⟩ := bnd_some hf
  cases h3
  cases hf
  exact snd_lc si hsl m H st r σ _ d _ T E h2 fun m1 H1 v l1 T1 rv => post m1 H1 _ l1 T1 ((E.mono l1).set rv)
/-- name op= e -/
def sAug (i : Nat) (gop : D → D → M D) (f : Fx) : Fs := fun r => bnd (eVar i r) fun x => bnd (f r) fun y => bnd (gop x y) fun z => ret (.nx (r.set i (some z)))
theorem fs_aug {i : Nat} {x : Str} {e : Expr} {f : Fx} {op : Operator} {ti : R2} {gop : D → D → M D} {pos' : Pos} (hN : X.N.Nodup) (hi : X.N[i]? = some x) (hx : Loc X.env.scope x) (he : FE X e f) (ho : OpR X (inplaceOp op) ti) (hs : SR2 X.K ti gop) (hf : X.fn x = true ∨ X.env.scope.names.lookup x = some .local := by first | exact .inl rfl | exact .inr rfl | assumption) :
    FS X (.AugAssign (.Name x pos') op e pos) (sAug i gop f) := by
  obtain ⟨t, p, sa⟩ := he
  refine ⟨_, ps_aug hN hi hx p ho hf, fun m H st r σ D0 o st' T E hf post => ?_⟩
  obtain ⟨d, s1, h1, hf⟩ := bnd_some hf
  obtain ⟨y, s2, h2, hf⟩ := bnd_some hf
  obtain ⟨z, s3, h3, hf⟩ := bnd_some hf
  cases hf
  unfold eVar at h1
  split at h1
  · rename_i d' e2
    cases h1
    obtain ⟨v, e3, q⟩ := E.at_ i _ e2
    refine ⟨v, e3, sa m H _ r σ _ y s2 T E h2 fun m1 H1 w l1 T1 rw1 => ?_⟩
    exact hs m1 H1 s2 v w _ y _ z _ T1 (Rp.mono l1 _ _ q) rw1 h3 fun m2 H2 u l2 T2 ru => post m2 H2 _ (l1.trans l2) T2 ((E.mono (l1.trans l2)).set ru)
  · cases h1
/-- o[i] = .. -/
def SRset (K : PySem.W.Frag) (t : TSet) (g : D → D → D → M Unit) : Prop :=
  ∀ (m : List Addr) (H : Hp) (st : Sto) (o i v : V) (o' i' v' : D) (Q : Hp → Prop) (st' : Sto), Tie K m H st → Rp K m H o' o → Rp K m H i' i → Rp K m H v' v → g o' i' v' st = some ((), st') →
    (∀ (m' : List Addr) (H' : Hp), Le m H m' H' → Tie K m' H' st' → Q H') → t o i v H Q
def gtSub (fo fi : Fx) (g : D → D → D → M Unit) : Fg := fun d r => bnd (fo r) fun o => bnd (fi r) fun i => bnd (g o i d) fun _ => ret r
theorem fg_sub {o i : Expr} {fo fi : Fx} {t : TSet} {g : D → D → D → M Unit} (ho : FE X o fo) (hi : FE X i fi) (hp : PSet X t) (hs : SRset X.K t g) (ha : ∀ v, assign (.Subscript o i pos) X.env v = (do
      let ov ← holding [v] (eval o X.env)
      let iv ← holding [v, ov] (eval i X.env)
      standAt pos
      holding [v, ov, iv] (setItem ov iv v)
      release [v, ov, iv] []) := by intro v; rfl) : FG X (.Subscript o i pos) [] (gtSub fo fi g) := by
  obtain ⟨t1, p1, s1⟩ := ho
  obtain ⟨t2, p2, s2⟩ := hi
  refine ⟨_, pg_sub p1 p2 hp ha, fun m H st r σ v d Q r' st' T E rd hf post => ?_⟩
  obtain ⟨x, sa, h1, hf⟩ := bnd_some hf
  obtain ⟨y, sb, h2, hf⟩ := bnd_some hf
  obtain ⟨u, sc, h3, hf⟩ := bnd_some hf
  cases hf
  refine s1 m H st r σ _ x sa T E h1 fun m1 H1 ov l1 T1 r1 => ?_
  refine s2 m1 H1 sa r σ _ y sb T1 (E.mono l1) h2 fun m2 H2 iv l2 T2 r2 => ?_
  exact hs m2 H2 sb ov iv v x y d _ _ T2 (Rp.mono l2 _ _ r1) r2 (Rp.mono (l1.trans l2) _ _ rd) h3 fun m3 H3 l3 T3 => post m3 H3 σ (l1.trans (l2.trans l3)) T3 (E.mono (l1.trans (l2.trans l3))) ⟨rfl, fun _ _ => rfl⟩
/-- o[i] op= e -/
def sAugS (fo fi fe : Fx) (gg : D → D → M D) (gop : D → D → M D) (gs : D → D → D → M Unit) : Fs := fun r => bnd (fo r) fun o => bnd (fi r) fun i => bnd (gg o i) fun x => bnd (fe r) fun y => bnd (gop x y) fun z => bnd (gs o i z) fun _ => ret (.nx r)
theorem fs_augS {o i e : Expr} {fo fi fe : Fx} {tget : R2} {tip : R2} {tset : TSet} {gg gop : D → D → M D} {gs : D → D → D → M Unit} {op : Operator} {tpos : Pos} (ho : FE X o fo) (hi : FE X i fi) (he : FE X e fe) (hg : PGet X tget) (hgs : SR2 X.K tget gg) (hop : OpR X (inplaceOp op) tip) (hps : SR2 X.K tip gop) (hst : PSet X tset) (hss : SRset X.K tset gs)
    (ha : ∀ ov iv new, augStore i ov iv new = (do holding [new, ov, iv] (setItem ov iv new); release [new, ov, iv] []; pure .next) := by intros; rfl) : FS X (.AugAssign (.Subscript o i tpos) op e pos) (sAugS fo fi fe gg gop gs) := by
  obtain ⟨t1, p1, s1⟩ := ho
  obtain ⟨t2, p2, s2⟩ := hi
  obtain ⟨t3, p3, s3⟩ := he
  refine ⟨_, ps_augS p1 p2 hg p3 hop hst ha, fun m H st r σ D0 o' st' T E hf post => ?_⟩
  obtain ⟨x, sa, h1, hf⟩ := bnd_some hf
  obtain ⟨y, sb, h2, hf⟩ := bnd_some hf
  obtain ⟨z, sc, h3, hf⟩ := bnd_some hf
  obtain ⟨w, sd, h4, hf⟩ := bnd_some hf
  obtain ⟨n, se, h5, hf⟩ := bnd_some hf
  obtain ⟨u, sf, h6, hf⟩ := bnd_some hf
  cases hf
  refine s1 m H st r σ _ x sa T E h1 fun m1 H1 ov l1 T1 r1 => ?_
  refine s2 m1 H1 sa r σ _ y sb T1 (E.mono l1) h2 fun m2 H2 iv l2 T2 r2 => ?_
  refine hgs m2 H2 sb ov iv x y _ z sc T2 (Rp.mono l2 _ _ r1) r2 h3 fun m3 H3 zv l3 T3 r3 => ?_
  refine s3 m3 H3 sc r σ _ w sd T3 (E.mono (l1.trans (l2.trans l3))) h4 fun m4 H4 wv l4 T4 r4 => ?_
  refine hps m4 H4 sd zv wv z w _ n se T4 (Rp.mono l4 _ _ r3) r4 h5 fun m5 H5 nv l5 T5 r5 => ?_
  have l35 := l3.trans (l4.trans l5)
  refine hss m5 H5 se ov iv nv x y n _ _ T5 (Rp.mono (l2.trans l35) _ _ r1) (Rp.mono l35 _ _ r2) r5 h6 fun m6 H6 l6 T6 => ?_
  have ll := l1.trans (l2.trans (l35.trans l6))
  exact post m6 H6 σ ll T6 (E.mono ll)
end

/-! ## while -/
def whF (c : Ft) (body : Fs) : Nat → Fs
  | 0, _ => stuck
  | n + 1, r => bnd (c r) fun k => if k = true then bnd (body r) (fun o => match o with
    | .nx r2 => whF c body n r2
    | .ct r2 => whF c body n r2
    | .bk r2 => ret (.nx r2)
    | .rt x => ret (.rt x)) else ret (.nx r)
theorem fs_while {X : Cx} {c : Expr} {body : List Stmt} {fc : Ft} {fb : Fs} {pos : Pos} (n : Nat) (hp : PassesOwn (model X.prog X.w) X.A X.env X.xe) (hc : FT X c fc) (hb : FSs X body fb) : FS X (.While c body [] pos) (whF fc fb n) := by
  obtain ⟨tc, pc, sc⟩ := hc
  obtain ⟨tb, pb, sb⟩ := hb
  refine ⟨_, ps_while hp pc pb, fun m H st r σ D0 o st' T E h post => ?_⟩
  refine ⟨fun k σ2 H2 => ∃ (m2 : List Addr) (st2 : Sto) (r2 : DEnv), Le m H m2 H2 ∧ Tie X.K m2 H2 st2 ∧ EnvR X.K m2 H2 r2 σ2 ∧ whF fc fb k r2 st2 = some (o, st'), ⟨n, m, st, r, .refl, T, E, h⟩, ?_⟩
  rintro k σ2 H2 ⟨m2, st2, r2, l2, T2, E2, h2⟩
  cases k with
  | zero => cases h2
  | succ k =>
    obtain ⟨b, s3, h3, h2⟩ := bnd_some h2
    refine sc m2 H2 st2 r2 σ2 _ b s3 T2 E2 h3 fun m3 H3 l3 T3 => ?_
    cases b with
    | false =>
      cases h2
      exact iteF (Meets.le (l2.trans l3) post m3 H3 σ2 .refl T3 (E2.mono l3))
    | true =>
      rw [if_pos rfl] at h2
      obtain ⟨o4, s4, h4, h2⟩ := bnd_some h2
      refine iteT ⟨fun σ' H' => ∃ (m' : List Addr) (st'' : Sto) (r' : DEnv), Le m H m' H' ∧ Tie X.K m' H' st'' ∧ EnvR X.K m' H' r' σ' ∧ whF fc fb k r' st'' = some (o, st'),
        fun σ' H' ⟨m', st'', r', a1, a2, a3, a4⟩ => ⟨k, Nat.lt_succ_self _, m', st'', r', a1, a2, a3, a4⟩, ?_⟩
      refine sb m3 H3 s3 r2 σ2 _ o4 s4 T3 (E2.mono l3) h4 ?_
      have lle := l2.trans l3
      cases o4 with
      | nx r5 => exact fun m5 H5 σ5 l5 T5 E5 => ⟨m5, s4, r5, lle.trans l5, T5, E5, h2⟩
      | ct r5 => exact fun m5 H5 σ5 l5 T5 E5 => ⟨m5, s4, r5, lle.trans l5, T5, E5, h2⟩
      | bk r5 =>
        cases h2
        exact fun m5 H5 σ5 l5 T5 E5 => post m5 H5 σ5 (lle.trans l5) T5 E5
      | rt d5 =>
        cases h2
        exact fun m5 H5 v5 l5 T5 E5 => post m5 H5 v5 (lle.trans l5) T5 E5

/-! ## defs -/
abbrev Fd := List D → M D
def spD (K : PySem.W.Frag) (n : Nat) (f : Fd) : Sp := fun vs H Q _ => vs.length = n ∧ ∃ (m : List Addr) (st : Sto) (ds : List D) (d : D) (st' : Sto), Tie K m H st ∧ RpL K m H ds vs ∧ f ds st = some (d, st') ∧ Pst K m H st' d Q
/-- a promise that is kept where no guard stands -/
structure FnG (P : Program) (w : World) (K : PySem.W.Frag) (mg : Str → Option Value) (base : Heap) (k : Nat) (f : Addr) (fd : FuncData) (ps : List Str) (sp : Sp) : Prop where
  len : ∀ vs H Q E, sp vs H Q E → vs.length = ps.length
  run : ∀ (A : Around) (outer : List Env) (s : Shared) (H : Hp) (args : Args) (us : List Value) (vs : List V) (Q : VK), A.guards = some [] → Room k A → Env0 P w K mg base A outer s H → BindsTo s fd args (ps.zip us) → Vals vs us → sp vs H Q E0 →
    codeAny (model P w) A (.call (.ref f) args) (CR CX0 outer P w H s Q E0) s
theorem FnG.mono {P : Program} {w : World} {K : PySem.W.Frag} {mg : Str → Option Value} {base : Heap} {j k : Nat} {f : Addr} {fd : FuncData} {ps : List Str} {sp : Sp} (F : FnG P w K mg base j f fd ps sp) (h : j ≤ k) : FnG P w K mg base k f fd ps sp :=
  ⟨F.len, fun A outer s H args us vs Q hg hr => F.run A outer s H args us vs Q hg (hr.mono h)⟩
def runB (n : Nat) (body : Fs) : Fd := fun ds => bnd (body (ds.map some ++ List.replicate (n - ds.length) none)) fun o => match o with
  | .nx _ => ret .non
  | .rt d => ret d
  | _ => stuck
theorem env_start {K : PySem.W.Frag} {m : List Addr} {H : Hp} {ds : List D} {vs : List V} (N : List Str) (r : RpL K m H ds vs) : EnvR K m H (ds.map some ++ List.replicate (N.length - ds.length) none) (L2.start N vs) := by
  have hl := r.length
  refine ⟨?_, fun i d h => ?_⟩
  · unfold L2.start
    rw [List.length_append, List.length_append, List.length_map, List.length_map, List.length_replicate, List.length_replicate, hl]
  · unfold L2.start
    by_cases hi : i < ds.length
    · rw [List.getElem?_append_left (by simpa using hi), List.getElem?_map] at h
      cases e : ds[i]? with
      | none => rw [e] at h; cases h
      | some d' =>
        rw [e] at h; cases h
        obtain ⟨v, h1, h2⟩ := r.get e
        refine ⟨v, ?_, h2⟩
        rw [List.getElem?_append_left (by rw [List.length_map, ← hl]; exact hi), List.getElem?_map, h1]; rfl
    · rw [List.getElem?_append_right (by simpa using hi), List.getElem?_replicate] at h
      split at h <;> cases h
section
variable {P : Program} {w : World} {K : PySem.W.Frag} {mg : Str → Option Value} {base : Heap}
/-- a def keeps its promise, by its body -/
theorem fn_ok {x qual : Str} {st : Stmt} {f : Addr} {fd : FuncData} {N ps : List Str} {k n nn : Nat} {g : Fs} (F : Fun K x qual st f fd) (S : FnScope N ps (defScope st)) (hn : ps.length = n) (hnn : N.length = nn)
    (hbody : ∀ (cdv : Value) (A : Around) (outer : List Env) (s : Shared) (H : Hp), A.guards = some [] → Room k (A.deeper (envOfC qual (defScope st) s.heap.objs.size f cdv)) → FSs (cxOf CX0 P w K mg base N qual (defScope st) f cdv A outer s H E0).nox (defBody st) g) :
    FnG P w K mg base (k + 1) f fd ps (spD K n (runB nn g)) := by
  obtain ⟨oc, od, kV, doc, pm, an, cdv, ct, osl, rfl, lk, hcd⟩ := F.ex
  refine ⟨fun vs H Q E h => h.1.trans hn.symm, fun A outer s H args us vs Q hgd hr e0 hb r hsp => ?_⟩
  obtain ⟨hl, m, sto, ds, d, sto', T, rd, hf, post⟩ := hsp
  have hl2 : vs.length = ps.length := hl.trans hn.symm
  have kin : K.In s.heap := e0.mod.kin.keeps fun b o e => (e0.bs b o e).1
  have names : ∀ y ∈ ps.zip us, (defScope st).names.lookup y.1 = some .local ∨ ((defScope st).names.lookup y.1 = some .cell ∧ ((cellsFrom (s.heap.objs.size + 1) (defScope st).names []).lookup y.1).isSome = true) := fun y hy => by
    rcases S.par y.1 (List.of_mem_zip hy).1 with q | q
    · exact .inl q
    · exact .inr ⟨q, PySem.W.cellsFrom_some _ _ _ (.inl q)⟩
  refine codeAny_call_function hr.depth (kin _ _ lk) rfl S.co S.gen rfl (PySem.W.codeRec_of kin hcd) (hb _ _ _ _ ?_)
  refine wpAny_newFunctionEnv_cells S.kind names fun env he s1 xc => ?_
  subst he
  refine ⟨(e0.mod.nolimit.keeps fun b o e => (e0.bs b o e).1).keeps xc.toInCall.keep, codeAny_func ?_⟩
  obtain ⟨t, pt, sd⟩ := hbody cdv A outer s H hgd (hr.deeper _)
  have I := inv_start (CX := CX0) (P := P) (w := w) (E := E0) (qual := qual) (f := f) (cd := cdv) S hr.hd e0 hl2 r xc
  unfold runB at hf
  obtain ⟨o, s9, h9, hf⟩ := bnd_some hf
  have want : t { nx := fun _ H' => Q .non H', rt := Q } (L2.start N vs) H := by
    refine sd m H sto _ (L2.start N vs) _ o s9 T (by rw [← hnn]; exact env_start N rd) h9 ?_
    cases o with
    | nx r5 => cases hf; exact fun m' H' σ' l' T' _ => post m' H' _ l' T' .non
    | rt d5 => cases hf; exact fun m' H' v' l' T' rv => post m' H' v' l' T' rv
    | bk _ => cases hf
    | ct _ => cases hf
  refine wpAny_mono (pt.nox.run [] s1 (L2.start N vs) H _ I want) (fun fl s' hs => ?_) fun e s' hs => hs
  have fin : ∀ {σ' : L2.St} {H' : Hp} {v : V} {u : Value}, Inv (cxOf CX0 P w K mg base N qual (defScope st) f cdv A outer s H E0) [] σ' H' s' → RelV v u → Q v H' → CE outer P w H s Q u s' := fun J rv q => ⟨_, _, J.os, J.bare, J.base, J.hok, rv, q⟩
  cases fl with
  | ret u => obtain ⟨v, σ', H', J, rv, q⟩ := hs; exact fin J rv q
  | next => obtain ⟨σ', H', J, q⟩ := hs; exact fin (v := V.non) (u := Value.none) J rfl q
  | brk => obtain ⟨_, _, _, q⟩ := hs; exact q.elim
  | cont => obtain ⟨_, _, _, q⟩ := hs; exact q.elim
end
section
variable {X : Cx} {k n : Nat} {f : Addr} {fd : FuncData} {ps : List Str} {x : Str} {p pos : Pos} {e : Expr} {es : List Expr}
theorem call_g {mf : Fd} (F : FnG X.prog X.w X.K X.mg X.base k f fd ps (spD X.K n mf)) (hgd : X.A.guards = some []) (hr : Room k X.A) (hb : Binds X.K fd ps []) : CallR X (.ref f) (fun vs H Q => spD X.K n mf vs H Q E0) := by
  intro pins s σ H vs us Q I r h
  have hl : us.length = ps.length := by rw [← r.length]; exact F.len _ _ _ _ h
  have hb2 := hb s us I.kIn (by rw [List.append_nil]; exact hl)
  rw [List.append_nil] at hb2
  refine wpAny_call (codeAny_mono (F.run X.A X.stack s H ⟨us, []⟩ us vs Q hgd hr I.env0 hb2 r h) fun q s' hq => ?_)
  cases q with
  | error e => exact hq.elim
  | ok fl =>
    cases fl with
    | ret u => exact I.after hq
    | next => exact hq.elim
    | brk => exact hq.elim
    | cont => exact hq.elim
theorem snd_fn {K : PySem.W.Frag} {mf : Fd} {ta : TA} {fa : Fa} (h : SndA K ta fa) (hn : ∀ (r : DEnv) (st st' : Sto) (ds : List D), fa r st = some (ds, st') → ds.length = n) : Snd K (tCB (fun vs H Q => spD K n mf vs H Q E0) ta) (eCall mf fa) := by
  intro m H st r σ Q d st' T E hf post
  obtain ⟨ds, s1, h1, hf⟩ := bnd_some hf
  exact h m H st r σ _ ds s1 T E h1 fun m1 H1 vs l1 T1 r1 => ⟨by rw [← r1.length]; exact hn _ _ _ _ h1, m1, s1, ds, d, st', T1, r1, hf, Pst.le l1 post⟩
theorem len_nil {r : DEnv} {st st' : Sto} {ds : List D} (h : aNil r st = some (ds, st')) : ds.length = 0 := by cases h; rfl
theorem len_cons {f1 : Fx} {g1 : Fa} {j : Nat} (h : ∀ (r : DEnv) (st st' : Sto) (ds : List D), g1 r st = some (ds, st') → ds.length = j) (r : DEnv) (st st' : Sto) (ds : List D) (hf : aCons f1 g1 r st = some (ds, st')) : ds.length = j + 1 := by
  obtain ⟨d, s1, h1, hf⟩ := bnd_some hf
  obtain ⟨es, s2, h2, hf⟩ := bnd_some hf
  cases hf
  rw [List.length_cons, h _ _ _ _ h2]
/-- a call of a def of the text -/
theorem fe_call {mf : Fd} {fa : Fa} (F : FnG X.prog X.w X.K X.mg X.base k f fd ps (spD X.K n mf)) (hgd : X.A.guards = some []) (hr : Room k X.A) (hg : Gl X x) (hm : X.mg x = some (.ref f)) (hk : PySem.W.keepIn X.K (.ref f) = true) (hb : Binds X.K fd ps [])
    (ha : FA X (e :: es) fa) (hn : ∀ (r : DEnv) (st st' : Sto) (ds : List D), fa r st = some (ds, st') → ds.length = n) (hdb : (x == ("__debug__" : Str)) = false := by decide)
    (he : starEach (e :: es) X.env = (false, eval e X.env) :: starEach es X.env := by rfl) (hpl : (backTo pos (starEach es X.env)).any (·.1) = false := by rfl) : FE X (.Call (.Name x p) (e :: es) [] pos) (eCall mf fa) := by
  obtain ⟨t, pa, sa⟩ := ha
  refine ⟨tCB (fun vs H Q => spD X.K n mf vs H Q E0) t, ⟨fun pins sh σ H Q I h => ?_⟩, snd_fn sa hn⟩
  refine wpAny_Call_Name_kw (ld_glob I hg hm ?_ hdb)
  refine PySem.W.callWith_K (h₀ := X.base) I.ok.mod.kin hk (thn (pa.run pos pins sh σ H _ I h) fun us sh1 ⟨vs, H1, I1, r1, q1⟩ => ⟨I1.kIn, ?_⟩) he hpl
  exact call_g F hgd hr hb pins sh1 σ H1 vs us Q I1 r1 q1
end
end Fe
namespace Fe
open PySem PySem.Spec PyProof.Rows L2

theorem SRs.or {K : PySem.W.Frag} {r r' : List V → Hp → VK → Prop} {g g' : List D → M D} (h : SRs K r g) (h' : SRs K r' g') :
    SRs K (fun x H Q => r x H Q ∨ r' x H Q) (fun x st => match g x st with | some q => some q | none => g' x st) := by
  intro m H st x dx Q d st' T rx hg post
  simp only at hg
  split at hg
  · rename_i q e; exact .inl (h m H st x dx Q d st' T rx (e.trans hg) post)
  · exact .inr (h' m H st x dx Q d st' T rx hg post)

/-! ## rows: lists and tuples read -/
def seqOf (st : Sto) : D → Option (List D)
  | .tup xs => some xs
  | .ptp xs => some xs
  | .rol xs => some xs
  | .loc l => match st[l]? with
    | some (.lst xs) => some xs
    | _ => none
  | _ => none
def lstOf (st : Sto) : D → Option (List D)
  | .rol xs => some xs
  | .loc l => match st[l]? with
    | some (.lst xs) => some xs
    | _ => none
  | _ => none
section
variable {K : PySem.W.Frag} {m : List Addr} {H : Hp} {st : Sto} {d : D} {x : V} {xs : List D}
theorem Tie.list (T : Tie K m H st) {l : Nat} (h : st[l]? = some (.lst xs)) (r : Rp K m H (.loc l) x) : ∃ a vs, x = .ref a ∧ m[l]? = some a ∧ H a = some (.lst vs) ∧ RpL K m H xs vs := by
  cases r with
  | loc hl =>
    obtain ⟨a, ha, c⟩ := T.addr h
    rw [hl] at ha; cases ha
    obtain ⟨vs, hv, r⟩ := c
    exact ⟨_, vs, rfl, hl, hv, r⟩
theorem lst_sq (T : Tie K m H st) (r : Rp K m H d x) (h : lstOf st d = some xs) : ∃ p vs, x = .ref p ∧ RpL K m H xs vs ∧ SqL K H p vs := by
  cases d with
  | rol ys => cases h; cases r with | rol hq rr => exact ⟨_, _, rfl, rr, hq.sq⟩
  | loc l =>
    simp only [lstOf] at h
    split at h
    · rename_i ys hc
      cases h
      obtain ⟨a, vs, e, _, hv, rr⟩ := T.list hc r
      exact ⟨a, vs, e, rr, SqL.of hv⟩
    · cases h
  | _ => cases h
theorem seq_sq (T : Tie K m H st) (r : Rp K m H d x) (h : seqOf st d = some xs) : ∃ p vs, x = .ref p ∧ RpL K m H xs vs ∧ (SqL K H p vs ∨ SqT K H p vs) := by
  cases d with
  | tup ys => cases h; cases r with | tup hq rr => exact ⟨_, _, rfl, rr, .inr (SqT.of hq)⟩
  | ptp ys => cases h; cases r with | ptp hq rr => exact ⟨_, _, rfl, rr, .inr hq.sq⟩
  | rol ys =>
    obtain ⟨p, vs, e, rr, q⟩ := lst_sq T r (show lstOf st (.rol ys) = some xs from h)
    exact ⟨p, vs, e, rr, .inl q⟩
  | loc l =>
    obtain ⟨p, vs, e, rr, q⟩ := lst_sq T r (show lstOf st (.loc l) = some xs from h)
    exact ⟨p, vs, e, rr, .inl q⟩
  | _ => cases h
end

/-! ## numbers -/
def gI (f : Int → Int → Option D) : D → D → M D := fun x y st => match x, y with
  | .int i, .int j => (f i j).map fun d => (d, st)
  | _, _ => none
theorem sr_I {K : PySem.W.Frag} {C : Int → Int → Prop} [∀ i j, Decidable (C i j)] {g : Int → Int → Int} : SR2 K (rI C fun i j => .int (g i j)) (gI fun i j => if C i j then some (.int (g i j)) else none) := by
  intro m H st x y dx dy Q d st' T rx ry h post
  cases rx with
  | int i =>
    cases ry with
    | int j =>
      by_cases hc : C i j
      · simp only [gI, if_pos hc, Option.map_some, Option.some.injEq, Prod.mk.injEq] at h
        obtain ⟨rfl, rfl⟩ := h
        exact ⟨i, j, rfl, rfl, hc, post m H _ .refl T (.int _)⟩
      · simp [gI, if_neg hc] at h
    | _ => cases h
  | _ => cases h
theorem sr_I0 {K : PySem.W.Frag} {g : Int → Int → Int} : SR2 K (rI0 fun i j => .int (g i j)) (gI fun i j => some (.int (g i j))) := by
  intro m H st x y dx dy Q d st' T rx ry h post
  cases rx with
  | int i =>
    cases ry with
    | int j => cases h; exact ⟨i, j, rfl, rfl, post m H _ .refl T (.int _)⟩
    | _ => cases h
  | _ => cases h
theorem sr_B0 {K : PySem.W.Frag} {g : Int → Int → Bool} : SR2 K (rI0 fun i j => .bl (g i j)) (gI fun i j => some (.bl (g i j))) := by
  intro m H st x y dx dy Q d st' T rx ry h post
  cases rx with
  | int i =>
    cases ry with
    | int j => cases h; exact ⟨i, j, rfl, rfl, post m H _ .refl T (.bl _)⟩
    | _ => cases h
  | _ => cases h
instance : ∀ i j, Decidable (CDiv i j) := fun i j => by unfold CDiv; infer_instance
instance : ∀ i j, Decidable (CPow i j) := fun i j => by unfold CPow; infer_instance
instance : ∀ i j, Decidable (CMul i j) := fun i j => by unfold CMul; infer_instance
def gNeg : D → M D := fun x st => match x with
  | .int i => some (.int (-i), st)
  | _ => none
theorem sr_neg {K : PySem.W.Frag} : SR1 K (rU fun i => .int (-i)) gNeg := by
  intro m H st x dx Q d st' T rx h post
  cases rx with
  | int i => cases h; exact ⟨i, rfl, post m H _ .refl T (.int _)⟩
  | _ => cases h

/-! ## texts -/
def gS (f : Str → Str → Option D) : D → D → M D := fun x y st => match x, y with
  | .str i, .str j => (f i j).map fun d => (d, st)
  | _, _ => none
theorem sr_addS {K : PySem.W.Frag} : SR2 K (fun x y H Q => ∃ i j, x = .str i ∧ y = .str j ∧ i.length + j.length ≤ sizeLine ∧ Q (.str (i ++ j)) H) (gS fun i j => if i.length + j.length ≤ sizeLine then some (.str (i ++ j)) else none) := by
  intro m H st x y dx dy Q d st' T rx ry h post
  cases rx with
  | str i =>
    cases ry with
    | str j =>
      by_cases hc : i.length + j.length ≤ sizeLine
      · simp only [gS, if_pos hc, Option.map_some, Option.some.injEq, Prod.mk.injEq] at h
        obtain ⟨rfl, rfl⟩ := h
        exact ⟨i, j, rfl, rfl, hc, post m H _ .refl T (.str _)⟩
      · simp [gS, if_neg hc] at h
    | _ => cases h
  | _ => cases h
theorem sr_cmpS {K : PySem.W.Frag} {p : Str → Str → Bool} : SR2 K (fun x y H Q => ∃ i j, x = .str i ∧ y = .str j ∧ Q (.bl (p i j)) H) (gS fun i j => some (.bl (p i j))) := by
  intro m H st x y dx dy Q d st' T rx ry h post
  cases rx with
  | str i =>
    cases ry with
    | str j => cases h; exact ⟨i, j, rfl, rfl, post m H _ .refl T (.bl _)⟩
    | _ => cases h
  | _ => cases h

/-! ## t + u, xs + ys, all additions -/
def catP (x y : D) (xs ys : List D) : D := if xs.isEmpty = true then y else if ys.isEmpty = true then x else .tup (xs ++ ys)
def gCatT : D → D → M D := fun x y st => match x, y with
  | .tup xs, .tup ys => if xs.length + ys.length ≤ sizeLine then some (.tup (xs ++ ys), st) else none
  | .ptp xs, .tup ys => if xs.length + ys.length ≤ sizeLine then some (catP (.ptp xs) (.tup ys) xs ys, st) else none
  | .tup xs, .ptp ys => if xs.length + ys.length ≤ sizeLine then some (catP (.tup xs) (.ptp ys) xs ys, st) else none
  | .ptp xs, .ptp ys => if xs.length + ys.length ≤ sizeLine then some (catP (.ptp xs) (.ptp ys) xs ys, st) else none
  | _, _ => none
theorem catP_rp {K : PySem.W.Frag} {m : List Addr} {H : Hp} {st : Sto} {x y : D} {xs ys : List D} {a b : Addr} {vs ws : List V} {Q : VK} (T : Tie K m H st) (r : RpL K m H xs vs) (r2 : RpL K m H ys ws) (rx : Rp K m H x (.ref a)) (ry : Rp K m H y (.ref b)) (hx : SqT K H a vs) (hy : SqT K H b ws) (hz : xs.length + ys.length ≤ sizeLine)
    (post : Pst K m H st (catP x y xs ys) Q) : rCatA K (.ref a) (.ref b) H Q := by
  refine ⟨a, b, vs, ws, rfl, rfl, hx, hy, by rw [← r.length, ← r2.length]; exact hz, fun e => ?_, fun n e => ?_, fun n n2 p hp => ?_⟩
  · subst e
    cases r
    exact post m H _ .refl T ry
  · subst e
    cases r2
    cases r with
    | nil => exact absurd rfl n
    | cons _ _ => exact post m H _ .refl T rx
  · cases r with
    | nil => exact absurd rfl n
    | cons q1 q2 =>
      cases r2 with
      | nil => exact absurd rfl n2
      | cons p1 p2 => exact post_tup T (RpL.app (.cons q1 q2) (.cons p1 p2)) post hp
theorem sr_catA {K : PySem.W.Frag} : SR2 K (rCatA K) gCatT := by
  intro m H st x y dx dy Q d st' T rx ry h post
  cases rx with
  | tup hq r =>
    cases ry with
    | tup hq2 r2 =>
      rename_i xs a vs ys b ws
      simp only [gCatT] at h
      split at h
      · rename_i hz
        cases h
        refine ⟨a, b, vs, ws, rfl, rfl, SqT.of hq, SqT.of hq2, by rw [← r.length, ← r2.length]; exact hz, fun e => ?_, fun n e => ?_, fun n n2 p hp => ?_⟩
        · subst e
          cases r
          exact post m H _ .refl T (.tup hq2 r2)
        · subst e
          cases r2
          rw [List.append_nil] at post
          exact post m H _ .refl T (.tup hq r)
        · exact post_tup T (RpL.app r r2) post hp
      · cases h
    | ptp hq2 r2 =>
      simp only [gCatT] at h
      split at h
      · rename_i hz
        cases h
        exact catP_rp T r r2 (.tup hq r) (.ptp hq2 r2) (SqT.of hq) hq2.sq hz post
      · cases h
    | _ => cases h
  | ptp hq r =>
    cases ry with
    | tup hq2 r2 =>
      simp only [gCatT] at h
      split at h
      · rename_i hz
        cases h
        exact catP_rp T r r2 (.ptp hq r) (.tup hq2 r2) hq.sq (SqT.of hq2) hz post
      · cases h
    | ptp hq2 r2 =>
      simp only [gCatT] at h
      split at h
      · rename_i hz
        cases h
        exact catP_rp T r r2 (.ptp hq r) (.ptp hq2 r2) hq.sq hq2.sq hz post
      · cases h
    | _ => cases h
  | _ => cases h
def gCatL : D → D → M D := fun x y st => match x, y with
  | .loc a, .loc b => match st[a]?, st[b]? with
    | some (.lst xs), some (.lst ys) => if xs.length + ys.length ≤ sizeLine then some (.loc st.length, st ++ [.lst (xs ++ ys)]) else none
    | _, _ => none
  | _, _ => none
theorem sr_catL {K : PySem.W.Frag} : SR2 K rCat gCatL := by
  intro m H st x y dx dy Q d st' T rx ry h post
  cases dx with
  | loc a =>
    cases dy with
    | loc b =>
      simp only [gCatL] at h
      split at h
      · rename_i xs ys h1 h2
        split at h
        · rename_i hz
          cases h
          obtain ⟨p, vs, e, _, hv, r⟩ := T.list h1 rx
          obtain ⟨p2, vs2, e2, _, hv2, r2⟩ := T.list h2 ry
          exact ⟨p, p2, vs, vs2, e, e2, hv, hv2, by rw [← r.length, ← r2.length]; exact hz, fun q hq => post_lst T (RpL.app r r2) post hq⟩
        · cases h
      · cases h
    | _ => cases h
  | _ => cases h
theorem op_addAll {X : Cx} : OpR X (binaryOp .Add) (fun x y H Q => rI0 (fun i j => .int (i + j)) x y H Q ∨ (∃ i j, x = .str i ∧ y = .str j ∧ i.length + j.length ≤ sizeLine ∧ Q (.str (i ++ j)) H) ∨ rCatA X.K x y H Q ∨ rCat x y H Q) :=
  op_add.or (op_add_str.or (op_catA.or op_cat))
def gAdd : D → D → M D := fun x y st => match gI (fun i j => some (.int (i + j))) x y st with
  | some q => some q
  | none => match gS (fun i j => if i.length + j.length ≤ sizeLine then some (.str (i ++ j)) else none) x y st with
    | some q => some q
    | none => match gCatT x y st with
      | some q => some q
      | none => gCatL x y st
theorem sr_addAll {K : PySem.W.Frag} : SR2 K (fun x y H Q => rI0 (fun i j => .int (i + j)) x y H Q ∨ (∃ i j, x = .str i ∧ y = .str j ∧ i.length + j.length ≤ sizeLine ∧ Q (.str (i ++ j)) H) ∨ rCatA K x y H Q ∨ rCat x y H Q) gAdd :=
  sr_I0.or (sr_addS.or (sr_catA.or sr_catL))

/-! ## len, truth -/
def gLen : List D → M D := fun ds st => match ds with
  | [.str z] => if z.length ≤ sizeLine then some (.int z.length, st) else none
  | [d] => (seqOf st d).map fun xs => (.int xs.length, st)
  | _ => none
theorem call_lenA {X : Cx} : CallR X (.builtin "len") (fun xs H Q => (∃ p ys, xs = [.ref p] ∧ (SqL X.K H p ys ∨ SqT X.K H p ys) ∧ Q (.int ys.length) H) ∨ (∃ z, xs = [.str z] ∧ z.length ≤ sizeLine ∧ Q (.int z.length) H)) := call_len_seq.or call_len_str
theorem sr_len {K : PySem.W.Frag} : SRs K (fun xs H Q => (∃ p ys, xs = [.ref p] ∧ (SqL K H p ys ∨ SqT K H p ys) ∧ Q (.int ys.length) H) ∨ (∃ z, xs = [.str z] ∧ z.length ≤ sizeLine ∧ Q (.int z.length) H)) gLen := by
  intro m H st vs ds Q d st' T r h post
  match ds, r with
  | [e], .cons re .nil =>
    cases e with
    | str z =>
      cases re
      simp only [gLen] at h
      split at h
      · cases h
        rename_i hz
        exact .inr ⟨z, rfl, hz, post m H _ .refl T (.int _)⟩
      · cases h
    | tup xs =>
      cases h
      obtain ⟨p, ws, e1, r1, q⟩ := seq_sq T re (show seqOf _ (.tup xs) = some xs from rfl)
      subst e1
      exact .inl ⟨p, ws, rfl, q, by rw [← r1.length]; exact post m H _ .refl T (.int _)⟩
    | ptp xs =>
      cases h
      obtain ⟨p, ws, e1, r1, q⟩ := seq_sq T re (show seqOf _ (.ptp xs) = some xs from rfl)
      subst e1
      exact .inl ⟨p, ws, rfl, q, by rw [← r1.length]; exact post m H _ .refl T (.int _)⟩
    | rol xs =>
      cases h
      obtain ⟨p, ws, e1, r1, q⟩ := seq_sq T re (show seqOf _ (.rol xs) = some xs from rfl)
      subst e1
      exact .inl ⟨p, ws, rfl, q, by rw [← r1.length]; exact post m H _ .refl T (.int _)⟩
    | loc l =>
      simp only [gLen] at h
      cases hs : seqOf st (.loc l) with
      | none => rw [hs] at h; cases h
      | some xs =>
        rw [hs] at h; cases h
        obtain ⟨p, ws, e1, r1, q⟩ := seq_sq T re hs
        subst e1
        exact .inl ⟨p, ws, rfl, q, by rw [← r1.length]; exact post m H _ .refl T (.int _)⟩
    | _ => cases h
  | _ :: _ :: _, _ => simp [gLen] at h

/-! ## isinstance -/
def tyName (st : Sto) : D → Option String
  | .non => some "NoneType" | .bl _ => some "bool" | .int _ => some "int" | .str _ => some "str" | .tup _ => some "tuple" | .ptp _ => some "tuple" | .rol _ => some "list"
  | .loc l => match st[l]? with
    | some (.lst _) => some "list"
    | some (.dct _) => some "dict"
    | some (.dtt _) => some "dict"
    | none => none
  | .ty _ => none
  | .exc _ _ _ => none
theorem fe_ty {X : Cx} {x : Str} {n : String} {pos : Pos} (hg : Gl X x) (hm : X.mg x = none) (hv : bootBuiltins x = some (.type n)) (hn : x ≠ "__name__" := by decide) (hd : (x == ("__debug__" : Str)) = false := by decide) : FE X (.Name x pos) (eC (.ty n)) :=
  fe_c (pe_bltn (v := .ty n) hg hm hv rfl hn hd) fun _ _ => .ty n
def gIsi : List D → M D := fun ds st => match ds with
  | [d, .ty n] => match tyName st d with
    | some t => (kitB t n).map fun b => (.bl b, st)
    | none => none
  | _ => none
theorem tyX_of {K : PySem.W.Frag} {m : List Addr} {H : Hp} {st : Sto} {d : D} {x : V} {t : String} (T : Tie K m H st) (r : Rp K m H d x) (h : tyName st d = some t) : TyX K H x (.type t) := by
  cases r with
  | non => cases h; exact .base .non
  | bl b => cases h; exact .base (.bl b)
  | int b => cases h; exact .base (.int b)
  | str b => cases h; exact .base (.str b)
  | tup hq rr =>
    cases h
    exact .base (.tup hq)
  | ptp hq rr =>
    cases h
    rcases hq with ⟨o, hq, _⟩ | ⟨o, its, n, hk, hc, _⟩
    · exact .fTuple hq
    · exact .kTuple hk hc
  | rol hq rr =>
    cases h
    rcases hq.sq with (hq | ⟨o, hq⟩) | ⟨o, its, n, hk, hc, _⟩
    · exact .base (.lst hq)
    · exact .base (.frz hq)
    · exact .kList hk hc
  | exc hq rr => cases h
  | loc hl =>
    simp only [tyName] at h
    split at h
    · rename_i hc
      cases h
      obtain ⟨a, ha, c⟩ := T.addr hc
      rw [hl] at ha; cases ha
      obtain ⟨vs, hv, _⟩ := c
      exact .base (.lst hv)
    · rename_i hc
      cases h
      obtain ⟨a, ha, c⟩ := T.addr hc
      rw [hl] at ha; cases ha
      obtain ⟨vs, hv, _⟩ := c
      exact .base (.dK hv)
    · rename_i hc
      cases h
      obtain ⟨a, ha, c⟩ := T.addr hc
      rw [hl] at ha; cases ha
      obtain ⟨vs, hv, _⟩ := c
      exact .base (.dT hv)
    · cases h
  | ty n => cases h
theorem sr_isi {K : PySem.W.Frag} : SRs K (rIsi K) gIsi := by
  intro m H st vs ds Q d st' T r h post
  match ds, r with
  | [e, .ty n], .cons re (.cons rn .nil) =>
    cases rn
    simp only [gIsi] at h
    split at h
    · rename_i t ht
      cases hk : kitB t n with
      | none => rw [hk] at h; cases h
      | some b =>
        rw [hk] at h; cases h
        exact ⟨_, _, .type t, .type n, b, rfl, .ty n, tyX_of T re ht, kit_ty hk, post m H _ .refl T (.bl b)⟩
    · cases h

/-! ## abs, int, all, any -/
def gAbs : List D → M D := fun ds st => match ds with
  | [.int i] => some (.int (if i < 0 then -i else i), st)
  | _ => none
theorem sr_abs {K : PySem.W.Frag} : SRs K (fun xs H Q => ∃ i, xs = [.int i] ∧ Q (.int (if i < 0 then -i else i)) H) gAbs := by
  intro m H st vs ds Q d st' T r h post
  match ds, r with
  | [.int i], .cons (.int _) .nil => cases h; exact ⟨i, rfl, post m H _ .refl T (.int _)⟩
def gInt : List D → M D := fun ds st => match ds with
  | [.int i] => some (.int i, st)
  | [.bl k] => some (.int (if k then 1 else 0), st)
  | _ => none
theorem sr_int {K : PySem.W.Frag} : SRs K (fun xs H Q => (∃ i, xs = [.int i] ∧ Q (.int i) H) ∨ ∃ k, xs = [.bl k] ∧ Q (.int (if k then 1 else 0)) H) gInt := by
  intro m H st vs ds Q d st' T r h post
  match ds, r with
  | [.int i], .cons (.int _) .nil => cases h; exact .inl ⟨i, rfl, post m H _ .refl T (.int _)⟩
  | [.bl i], .cons (.bl _) .nil => cases h; exact .inr ⟨i, rfl, post m H _ .refl T (.int _)⟩
def boolsOf : List D → Option (List Bool)
  | [] => some []
  | .bl b :: ds => (boolsOf ds).map (b :: ·)
  | _ => none
theorem bools_rp {K : PySem.W.Frag} {m : List Addr} {H : Hp} : ∀ {ds : List D} {vs : List V} {bs : List Bool}, RpL K m H ds vs → boolsOf ds = some bs → vs = bs.map V.bl
  | [], _, _, .nil, h => by cases h; rfl
  | d :: ds, _, bs, .cons r t, h => by
    cases r with
    | bl b =>
      simp only [boolsOf] at h
      cases e : boolsOf ds with
      | none => rw [e] at h; cases h
      | some cs => rw [e] at h; cases h; rw [bools_rp t e]; rfl
    | _ => cases h
def gAll : List D → M D := fun ds st => match ds with
  | [d] => match (lstOf st d).bind boolsOf with
    | some bs => some (.bl (bs.all id), st)
    | none => none
  | _ => none
theorem sr_all {K : PySem.W.Frag} : SRs K (rAll K) gAll := by
  intro m H st vs ds Q d st' T r h post
  match ds, r with
  | [e], .cons re .nil =>
    simp only [gAll] at h
    cases hs : lstOf st e with
    | none => rw [hs] at h; cases h
    | some xs =>
      rw [hs] at h
      simp only [Option.bind_some] at h
      split at h
      · rename_i bs hb
        cases h
        obtain ⟨p, ws, e1, r1, q⟩ := lst_sq T re hs
        subst e1
        have e2 := bools_rp r1 hb
        subst e2
        exact ⟨p, bs, rfl, q, post m H _ .refl T (.bl _)⟩
      · cases h
def gAny : List D → M D := fun ds st => match ds with
  | [d] => match (lstOf st d).bind boolsOf with
    | some bs => some (.bl (bs.any id), st)
    | none => none
  | _ => none
theorem sr_any {K : PySem.W.Frag} : SRs K (rAny K) gAny := by
  intro m H st vs ds Q d st' T r h post
  match ds, r with
  | [e], .cons re .nil =>
    simp only [gAny] at h
    cases hs : lstOf st e with
    | none => rw [hs] at h; cases h
    | some xs =>
      rw [hs] at h
      simp only [Option.bind_some] at h
      split at h
      · rename_i bs hb
        cases h
        obtain ⟨p, ws, e1, r1, q⟩ := lst_sq T re hs
        subst e1
        have e2 := bools_rp r1 hb
        subst e2
        exact ⟨p, bs, rfl, q, post m H _ .refl T (.bl _)⟩
      · cases h

/-! ## list(x), tuple(x) -/
def gList : List D → M D := fun ds st => match ds with
  | [d] => (seqOf st d).map fun xs => (.loc st.length, st ++ [.lst xs])
  | _ => none
theorem sr_list {K : PySem.W.Frag} : SRs K (fun xs H Q => ∃ p ys, xs = [.ref p] ∧ (SqL K H p ys ∨ SqT K H p ys) ∧ ∀ l, H l = none → Q (.ref l) (upd H l (.lst ys))) gList := by
  intro m H st vs ds Q d st' T r h post
  match ds, r with
  | [e], .cons re .nil =>
    simp only [gList] at h
    cases hs : seqOf st e with
    | none => rw [hs] at h; cases h
    | some xs =>
      rw [hs] at h; cases h
      obtain ⟨p, ws, e1, r1, q⟩ := seq_sq T re hs
      subst e1
      exact ⟨p, ws, rfl, q, fun l hl => post_lst T r1 post hl⟩
def gTuple : List D → M D := fun ds st => match ds with
  | [.ptp xs] => some (.ptp xs, st)
  | [d] => (seqOf st d).map fun xs => (.tup xs, st)
  | _ => none
theorem sr_tuple {K : PySem.W.Frag} : SRs K (fun xs H Q => ∃ p ys, xs = [.ref p] ∧ ((SqL K H p ys ∧ ∀ l, H l = none → Q (.ref l) (upd H l (.tup ys))) ∨ (SqT K H p ys ∧ Q (.ref p) H))) gTuple := by
  intro m H st vs ds Q d st' T r h post
  match ds, r with
  | [e], .cons re .nil =>
    by_cases hpt : ∃ zs, e = .ptp zs
    · obtain ⟨zs, rfl⟩ := hpt
      cases h
      cases re with | ptp hq rr => exact ⟨_, _, rfl, .inr ⟨hq.sq, post m H _ .refl T (.ptp hq rr)⟩⟩
    have hg : gTuple [e] st = (seqOf st e).map fun xs => (.tup xs, st) := by
      cases e with
      | ptp zs => exact absurd ⟨zs, rfl⟩ hpt
      | _ => rfl
    rw [hg] at h
    cases hs : seqOf st e with
    | none => rw [hs] at h; cases h
    | some xs =>
      rw [hs] at h; cases h
      cases e with
      | ptp zs => exact absurd ⟨zs, rfl⟩ hpt
      | tup ys => cases hs; cases re with | tup hq rr => exact ⟨_, _, rfl, .inr ⟨SqT.of hq, post m H _ .refl T (.tup hq rr)⟩⟩
      | loc l =>
        obtain ⟨p, ws, e1, r1, q⟩ := lst_sq T re (show lstOf st (.loc l) = some xs from hs)
        subst e1
        exact ⟨p, ws, rfl, .inl ⟨q, fun l hl => post_tup T r1 post hl⟩⟩
      | rol ys =>
        obtain ⟨p, ws, e1, r1, q⟩ := lst_sq T re (show lstOf st (.rol ys) = some xs from hs)
        subst e1
        exact ⟨p, ws, rfl, .inl ⟨q, fun l hl => post_tup T r1 post hl⟩⟩
      | _ => cases hs
  | _ :: _ :: _, _ => simp [gTuple] at h
end Fe
namespace Fe
open PySem PySem.Spec PyProof.Rows L2

/-! ## repr -/
mutual
inductive DpX (K : PySem.W.Frag) (H : Hp) : V → PyData → Prop
  | non : DpX K H .non .none
  | bl (b : Bool) : DpX K H (.bl b) (.bool b)
  | int (i : Int) : DpX K H (.int i) (.int i)
  | str (x : Str) : DpX K H (.str x) (.str x)
  | tup {a : Addr} {xs : List V} {ds : List PyData} : SqT K H a xs → DpXAll K H xs ds → DpX K H (.ref a) (.tuple ds)
  | lst {a : Addr} {xs : List V} {ds : List PyData} : H a = some (.lst xs) → DpXAll K H xs ds → DpX K H (.ref a) (.list ds)
  | dct {a : Addr} {kvs : List (Key × V)} {ds : List (PyData × PyData)} : H a = some (.dK kvs) → DpXKv K H kvs ds → DpX K H (.ref a) (.dict ds)
inductive DpXAll (K : PySem.W.Frag) (H : Hp) : List V → List PyData → Prop
  | nil : DpXAll K H [] []
  | cons {v : V} {vs : List V} {d : PyData} {ds : List PyData} : DpX K H v d → DpXAll K H vs ds → DpXAll K H (v :: vs) (d :: ds)
inductive DpXKv (K : PySem.W.Frag) (H : Hp) : List (Key × V) → List (PyData × PyData) → Prop
  | nil : DpXKv K H [] []
  | cons {k : Key} {v : V} {vs : List (Key × V)} {c d : PyData} {ds : List (PyData × PyData)} : DpX K H (kV k) c → DpX K H v d → DpXKv K H vs ds → DpXKv K H ((k, v) :: vs) ((c, d) :: ds)
end
section
variable {X : Cx} {pins : List (Addr × Obj)} {σ : L2.St} {H : Hp} {s : Shared}
/-- the modules' dict stands in the base -/
def SysAt (base : Heap) : Prop := ∃ m, base.Ns sysModules m
theorem SysAt.ne {X : Cx} {pins : List (Addr × Obj)} {σ : L2.St} {H : Hp} {s : Shared} (sy : SysAt X.base) (I : Inv X pins σ H s) {its : Array Value} {n : Nat} (h : s.heap.get? sysModules = some { cls := .type "list", data := .seq its n }) : False := by
  obtain ⟨m, hn⟩ := sy
  obtain ⟨o, es, ep, e, d, _⟩ := hn.keepsP I.bk
  rw [h] at e
  cases e
  cases d
mutual
theorem DpX.reads (I : Inv X pins σ H s) (sy : SysAt X.base) : ∀ (d : PyData) (v : V) (u : Value), DpX X.K H v d → RelV v u → ∃ as, Reads s.heap u d as ∧ sysModules ∉ as
  | .none, _, _, h, r => by cases h; cases r; exact ⟨_, Reads.none, by simp⟩
  | .bool b, _, _, h, r => by cases h; cases r; exact ⟨_, Reads.bool b, by simp⟩
  | .int i, _, _, h, r => by cases h; obtain ⟨t, rfl⟩ := r; exact ⟨_, Reads.int i t, by simp⟩
  | .str x, _, _, h, r => by cases h; obtain ⟨t, rfl⟩ := r; exact ⟨_, Reads.str x t, by simp⟩
  | .list ds, _, _, h, r => by
    cases h with
    | lst hs ha =>
      cases r
      obtain ⟨_, its, n, rv, ho⟩ := I.hok _ _ hs
      obtain ⟨as, hr, hn⟩ := DpX.readsAll I sy ds _ its ha rv
      refine ⟨_, Reads.list ho rfl rfl hr, fun z => ?_⟩
      rcases List.mem_cons.mp z with z | z
      · subst z; exact sy.ne I ho
      · exact hn z
  | .tuple ds, _, _, h, r => by
    cases h with
    | tup hs ha =>
      cases r
      obtain ⟨its, rv, ⟨o, ho, hc, n, hd⟩, _⟩ := I.tuple hs
      obtain ⟨as, hr, hn⟩ := DpX.readsAll I sy ds _ its ha rv
      exact ⟨_, Reads.tuple ho hc hd hr, hn⟩
  | .dict ds, _, _, h, r => by
    cases h with
    | dct hs ha =>
      cases r
      obtain ⟨_, hns, vs, kv, o, es, ep, ho, hex, hd, _, hp, _⟩ := I.hok _ _ hs
      obtain ⟨as, bs, h1, h2, n1, n2⟩ := DpX.readsKv I sy ds _ vs es.toList ha kv hp
      refine ⟨_, Reads.dict ho hex.1 hd h1 h2, fun z => ?_⟩
      rcases List.mem_append.mp z with z | z
      · rcases List.mem_cons.mp z with z | z
        · subst z; simp at hns
        · exact n1 z
      · exact n2 z
theorem DpX.readsAll (I : Inv X pins σ H s) (sy : SysAt X.base) : ∀ (ds : List PyData) (vs : List V) (us : List Value), DpXAll X.K H vs ds → Vals vs us → ∃ as, ReadsAll s.heap us ds as ∧ sysModules ∉ as
  | [], _, _, h, r => by cases h; cases r; exact ⟨_, ReadsAll.nil, by simp⟩
  | d :: ds, _, _, h, r => by
    cases h with
    | cons h1 h2 =>
      cases r with
      | cons r1 r2 =>
        obtain ⟨as, q1, n1⟩ := DpX.reads I sy d _ _ h1 r1
        obtain ⟨bs, q2, n2⟩ := DpX.readsAll I sy ds _ _ h2 r2
        exact ⟨_, ReadsAll.cons q1 q2, fun z => (List.mem_append.mp z).elim n1 n2⟩
theorem DpX.readsKv (I : Inv X pins σ H s) (sy : SysAt X.base) : ∀ (ds : List (PyData × PyData)) (kvs : List (Key × V)) (us : List (Key × Value)) (es : List DictEntry), DpXKv X.K H kvs ds → KV kvs us → Pairs (mixKind X.prog X.w) es us →
    ∃ as bs, ReadsAll s.heap (es.map (·.key)) (ds.map (·.1)) as ∧ ReadsAll s.heap (es.map (·.val)) (ds.map (·.2)) bs ∧ sysModules ∉ as ∧ sysModules ∉ bs
  | [], _, _, _, h, r, p => by cases h; cases r; cases p; exact ⟨_, _, ReadsAll.nil, ReadsAll.nil, by simp, by simp⟩
  | (c, d) :: ds, _, _, _, h, r, p => by
    cases h with
    | cons h1 h2 h3 =>
      cases r with
      | cons r1 r2 =>
        cases p with
        | cons p1 p2 p3 =>
          have e1 := r1.1
          have e2 := r1.2
          simp only at e1 e2
          rw [← e1] at p1
          obtain ⟨as, q1, n1⟩ := DpX.reads I sy c _ _ h1 (relV_key p1)
          rw [← p2] at e2
          obtain ⟨bs, q2, n2⟩ := DpX.reads I sy d _ _ h2 e2
          obtain ⟨as', bs', q3, q4, n3, n4⟩ := DpX.readsKv I sy ds _ _ _ h3 r2 p3
          exact ⟨_, _, ReadsAll.cons q1 q3, ReadsAll.cons q2 q4, fun z => (List.mem_append.mp z).elim n1 n3, fun z => (List.mem_append.mp z).elim n2 n4⟩
end
end
def toPyX (st : Sto) : Nat → D → Option PyData
  | 0, _ => none
  | _ + 1, .non => some .none
  | _ + 1, .bl b => some (.bool b)
  | _ + 1, .int i => some (.int i)
  | _ + 1, .str x => some (.str x)
  | n + 1, .tup xs => (xs.mapM (toPyX st n)).map .tuple
  | n + 1, .loc l => match st[l]? with
    | some (.dct kvs) => (kvs.mapM fun kv => (toPyX st n kv.2).map fun p => ((match kv.1 with | .inl i => PyData.int i | .inr x => PyData.str x), p)).map .dict
    | some (.lst xs) => (xs.mapM (toPyX st n)).map .list
    | _ => none
  | n + 1, .ptp xs => (xs.mapM (toPyX st n)).map .tuple
  | _ + 1, .rol _ => none
  | _ + 1, .ty _ => none
  | _ + 1, .exc _ _ _ => none
section
variable {K : PySem.W.Frag} {m : List Addr} {H : Hp} {st : Sto}
theorem dpx_all (n : Nat) (ih : ∀ (d : D) (v : V) (p : PyData), Rp K m H d v → toPyX st n d = some p → DpX K H v p) : ∀ (xs : List D) (vs : List V) (ps : List PyData), RpL K m H xs vs → xs.mapM (toPyX st n) = some ps → DpXAll K H vs ps
  | [], _, ps, .nil, h => by
    have e : ps = [] := by simpa using h
    subst e; exact .nil
  | x :: xs, _, ps, .cons r t, h => by
    obtain ⟨y, ys, h1, h2, rfl⟩ := mapM_cons h
    exact .cons (ih x _ y r h1) (dpx_all n ih xs _ ys t h2)
theorem dpx_kv (n : Nat) (ih : ∀ (d : D) (v : V) (p : PyData), Rp K m H d v → toPyX st n d = some p → DpX K H v p) : ∀ (xs : List (Key × D)) (vs : List (Key × V)) (ps : List (PyData × PyData)), RpKv K m H xs vs →
    (xs.mapM fun kv => (toPyX st n kv.2).map fun p => ((match kv.1 with | .inl i => PyData.int i | .inr x => PyData.str x), p)) = some ps → DpXKv K H vs ps
  | [], _, ps, .nil, h => by
    have e : ps = [] := by simpa using h
    subst e; exact .nil
  | x :: xs, _, ps, .cons r t, h => by
    obtain ⟨y, ys, h1, h2, rfl⟩ := mapM_cons h
    cases e : toPyX st n x.2 with
    | none => rw [e] at h1; cases h1
    | some p =>
      rw [e] at h1
      cases h1
      rename_i w ws
      obtain ⟨k, v⟩ := w
      obtain ⟨k', d⟩ := x
      obtain ⟨e1, r1⟩ := r
      simp only at e1 r1 e
      subst e1
      refine .cons ?_ (ih d v p r1 e) (dpx_kv n ih xs _ ys t h2)
      cases k' with
      | inl i => exact .int i
      | inr i => exact .str i
theorem dpx_of (T : Tie K m H st) : ∀ (n : Nat) (d : D) (v : V) (p : PyData), Rp K m H d v → toPyX st n d = some p → DpX K H v p
  | 0, _, _, _, _, h => by simp [toPyX] at h
  | n + 1, .non, _, p, .non, h => by simp [toPyX] at h; subst h; exact .non
  | n + 1, .bl b, _, p, .bl _, h => by simp [toPyX] at h; subst h; exact .bl b
  | n + 1, .int b, _, p, .int _, h => by simp [toPyX] at h; subst h; exact .int b
  | n + 1, .str b, _, p, .str _, h => by simp [toPyX] at h; subst h; exact .str b
  | n + 1, .tup xs, _, p, .tup hq r, h => by
    rw [toPyX] at h
    cases e : xs.mapM (toPyX st n) with
    | none => rw [e] at h; cases h
    | some ps => rw [e] at h; cases h; exact .tup (SqT.of hq) (dpx_all n (dpx_of T n) xs _ ps r e)
  | n + 1, .rol xs, _, p, _, h => by simp [toPyX] at h
  | n + 1, .ptp xs, _, p, .ptp hq r, h => by
    simp only [toPyX] at h
    cases e : xs.mapM (toPyX st n) with
    | none => rw [e] at h; cases h
    | some ps => rw [e] at h; cases h; exact .tup hq.sq (dpx_all n (dpx_of T n) xs _ ps r e)
  | n + 1, .ty xs, _, p, _, h => by simp [toPyX] at h
  | n + 1, .exc _ _ _, _, p, _, h => by simp [toPyX] at h
  | n + 1, .loc l, _, p, .loc hl, h => by
    rw [toPyX] at h
    split at h
    · rename_i xs hc
      obtain ⟨a, ha, hcell⟩ := T.addr hc
      rw [hl] at ha; cases ha
      obtain ⟨vs, hv, r⟩ := hcell
      cases e : (xs.mapM fun kv => (toPyX st n kv.2).map fun p => ((match kv.1 with | .inl i => PyData.int i | .inr x => PyData.str x), p)) with
      | none => rw [e] at h; cases h
      | some ps => rw [e] at h; cases h; exact .dct hv (dpx_kv n (dpx_of T n) xs _ ps r e)
    · rename_i xs hc
      obtain ⟨a, ha, hcell⟩ := T.addr hc
      rw [hl] at ha; cases ha
      obtain ⟨vs, hv, r⟩ := hcell
      cases e : xs.mapM (toPyX st n) with
      | none => rw [e] at h; cases h
      | some ps => rw [e] at h; cases h; exact .lst hv (dpx_all n (dpx_of T n) xs _ ps r e)
    · cases h
end
def shows (p : PyData) : Bool := p.showable && decide (p.shown.length ≤ sizeLine) && decide (p.depth ≤ 100)
def gRepr : List D → M D := fun ds st => match ds with
  | [d] => match (match toPy st 70 d with | some p => some p | none => toPyX st 70 d) with
    | some p => if shows p = true then some (.str p.shown, st) else none
    | none => none
  | _ => none
def rRepr (K : PySem.W.Frag) : List V → Hp → VK → Prop := fun xs H Q => ∃ v p, xs = [v] ∧ (Dp K H v p ∨ DpX K H v p) ∧ shows p = true ∧ Q (.str p.shown) H
mutual
theorem noDict_of_dp {K : PySem.W.Frag} {H : Hp} : ∀ (p : PyData) (v : V), Dp K H v p → p.hasDict = false
  | .none, _, _ => by simp [PyData.hasDict]
  | .bool _, _, _ => by simp [PyData.hasDict]
  | .int _, _, _ => by simp [PyData.hasDict]
  | .str _, _, _ => by simp [PyData.hasDict]
  | .list xs, _, h => by cases h with | lst _ ha => simp only [PyData.hasDict]; exact noDict_of_dpAll xs _ ha
  | .tuple xs, _, h => by cases h with | tup _ ha => simp only [PyData.hasDict]; exact noDict_of_dpAll xs _ ha
  | .dict _, _, h => by cases h
theorem noDict_of_dpAll {K : PySem.W.Frag} {H : Hp} : ∀ (ps : List PyData) (vs : List V), DpAll K H vs ps → PyData.hasDictAll ps = false
  | [], _, _ => by simp [PyData.hasDictAll]
  | x :: xs, _, h => by
    cases h with
    | cons h1 h2 => simp only [PyData.hasDictAll, noDict_of_dp x _ h1, noDict_of_dpAll xs _ h2]; rfl
end
theorem call_reprA {X : Cx} {k : Nat} (sy : SysAt X.base) (hg : X.A.guards = some []) (hr : Room k X.A) : CallR X (.builtin "repr") (rRepr X.K) := by
  intro pins s σ H xs us Q I r h
  obtain ⟨v, p, rfl, hp, hs, q⟩ := h
  obtain ⟨u, rfl, ru⟩ := vals1 r
  unfold shows at hs
  simp only [Bool.and_eq_true, decide_eq_true_eq] at hs
  obtain ⟨⟨h1, h2⟩, h3⟩ := hs
  have hu : X.A.units + (p.depth + 1) < cLine := by have := hr.un; omega
  have go : ∀ as, Reads s.heap u p as → (p.hasDict = true → sysModules ∉ as) → wpAny (model X.prog X.w) X.A (call (.builtin "repr") [u]) (EP X pins σ Q) X.xe s := by
    intro as rd hsm
    cases rd with
    | none =>
      have q' : Q (.str "None") H := by simpa [PyData.shown] using q
      exact PySem.P.repr_of_none ⟨.str _, H, I.tok _, ⟨_, rfl⟩, q'⟩
    | bool b =>
      cases b with
      | true =>
        have q' : Q (.str "True") H := by simpa [PyData.shown] using q
        exact PySem.P.repr_of_bool ⟨.str "True", H, I.tok _, ⟨_, rfl⟩, q'⟩
      | false =>
        have q' : Q (.str "False") H := by simpa [PyData.shown] using q
        exact PySem.P.repr_of_bool ⟨.str "False", H, I.tok _, ⟨_, rfl⟩, q'⟩
    | int i t =>
      have q' : Q (.str (toString i)) H := by simpa [PyData.shown] using q
      have hz : i.natAbs.log2 < 1920 := by simpa [PyData.showable] using h1
      exact PySem.P.repr_of_int hz ⟨.str _, H, I.tok _, ⟨_, rfl⟩, q'⟩
    | str x t =>
      have q' : Q (.str (reprText x)) H := by simpa [PyData.shown] using q
      have hz : (reprText x).length ≤ sizeLine := by simpa [PyData.shown] using h2
      exact PySem.P.repr_of_str ⟨.str _, H, I.tok _, ⟨_, rfl⟩, q'⟩ hz
    | list a1 a2 a3 a4 =>
      exact repr_of_reads' (Reads.list a1 a2 a3 a4) h1 hsm hg hu (fun _ _ e => e) (fun h' t' tk hk => ⟨.str _, H, I.kept (t' := tk) hk, ⟨_, rfl⟩, q⟩) h2
    | tuple a1 a2 a3 a4 =>
      exact repr_of_reads' (Reads.tuple a1 a2 a3 a4) h1 hsm hg hu (fun _ _ e => e) (fun h' t' tk hk => ⟨.str _, H, I.kept (t' := tk) hk, ⟨_, rfl⟩, q⟩) h2
    | dict a1 a2 a3 a4 a5 =>
      exact repr_of_reads' (Reads.dict a1 a2 a3 a4 a5) h1 hsm hg hu (fun _ _ e => e) (fun h' t' tk hk => ⟨.str _, H, I.kept (t' := tk) hk, ⟨_, rfl⟩, q⟩) h2
  rcases hp with hp | hp
  · obtain ⟨as, rd⟩ := Dp.reads I p v u hp ru
    exact go as rd (PyData.noDict_hsm (noDict_of_dp p v hp))
  · obtain ⟨as, rd, hn⟩ := DpX.reads I sy p v u hp ru
    exact go as rd fun _ => hn
theorem sr_repr {K : PySem.W.Frag} : SRs K (rRepr K) gRepr := by
  intro m H st vs ds Q d st' T r h post
  match ds, r with
  | [e], .cons re .nil =>
    simp only [gRepr] at h
    cases h1 : toPy st 70 e with
    | some p =>
      rw [h1] at h
      simp only at h
      split at h
      · rename_i hs
        cases h
        exact ⟨_, p, rfl, .inl (dp_of T 70 e _ p re h1), hs, post m H _ .refl T (.str _)⟩
      · cases h
    | none =>
      rw [h1] at h
      simp only at h
      cases h2 : toPyX st 70 e with
      | none => rw [h2] at h; cases h
      | some p =>
        rw [h2] at h
        simp only at h
        split at h
        · rename_i hs
          cases h
          exact ⟨_, p, rfl, .inr (dpx_of T 70 e _ p re h2), hs, post m H _ .refl T (.str _)⟩
        · cases h
end Fe
namespace PySem.FeX
open PySem PySem.SeqAt
open PySem.AutoSeq1 (wpAny_loadPart')
open PySem.MeetsSeq
/-! ## a text beside a dict -/
theorem str_eq_declines_any (b : Str) (u : Tok) (l : Addr) (dd : Option Addr) (es : Array DictEntry) (n : Nat) (sl : Array (Option Value)) :
    Meets (Builtin.«str.__eq__» ⟨[.str b u, .ref l], []⟩) (fun _ R s => s.heap.get? l = some { cls := .type "dict", dict := dd, data := .dict es n, slots := sl } ∧ R (.ok (.ret .notImplemented)) s) :=
  .of_wp fun prog w A R s h => by obtain ⟨heap0, gen0, drawn0, tok0, os0⟩ := s; obtain ⟨at0, h⟩ := h; wp_walk using wpAny_loadPart' at0, wpAny_load at0; exact ⟨_, rfl, h⟩
theorem dict_eq_declines_str (b : Str) (u : Tok) (l : Addr) (dd : Option Addr) (data : Data) (sl : Array (Option Value)) :
    Meets (Builtin.«dict.__eq__» ⟨[.ref l, .str b u], []⟩) (fun _ R s => s.heap.get? l = some { cls := .type "dict", dict := dd, data := data, slots := sl } ∧ R (.ok (.ret .notImplemented)) s) :=
  .of_wp fun prog w A R s h => by
    obtain ⟨hp, g, d, tk, os⟩ := s
    obtain ⟨hl, h⟩ := h
    have f1 := F.sub_str_dict
    wp_walk using wpAny_loadPart' hl
    exact ⟨_, rfl, h⟩
variable {A : Around} {s : Shared}
theorem rc_str_dict {l : Addr} {o : Obj} (b : Str) (u : Tok) (ho : s.heap.get? l = some o) (hc : o.cls = .type "dict") {es : Array DictEntry} {n : Nat} (hdt : o.data = .dict es n) (hu : A.units < cLine) : RcAt A s (.str b u) (.ref l) false := fun prog w E Q h => by
  obtain ⟨cls, dd, data, sl⟩ := o
  simp only at hc hdt
  subst hc hdt
  exact rc_eq_decline_or (k := false) (typeIs_str s b u) ⟨_, ho, rfl⟩ (by decide) F.sub_dict_str F.slot_str_eq F.slot_dict_eq_refl
    (fun _ hq => call_meets F.slot_str_eq (typeIs_str s b u) F.entry_str_eq (F.args_str_eq_2 _ _) (str_eq_declines_any b u l dd es n sl) ⟨ho, hq⟩)
    (fun _ hq => call_meets F.slot_dict_eq_refl ⟨_, ho, rfl⟩ F.entry_dict_eq (F.args_dict_eq_2 _ _) (dict_eq_declines_str b u l dd (.dict es n) sl) ⟨ho, hq⟩)
    (fun _ go => wpAny_of_eq (show isSame (.str b u) (.ref l) = pure false from rfl) go) (.inr hu) h
theorem eq_str_dict {l : Addr} {o : Obj} (b : Str) (u : Tok) (ho : s.heap.get? l = some o) (hc : o.cls = .type "dict") {es : Array DictEntry} {n : Nat} (hdt : o.data = .dict es n) (hu : A.units < cLine) : EqAt A s (.str b u) (.ref l) false := fun prog w E Q h => by
  unfold eqBool
  refine wpAny_holding ?_
  refine wpAny_ite_split (fun same => absurd (eq_of_beq same) nofun) fun _ => ?_
  exact wpAny_bind (rc_str_dict b u ho hc hdt hu prog w E _ (wpAny_truthy_bool h))
end PySem.FeX
namespace Fe
open PySem PySem.Spec PyProof.Rows L2

/-! ## x in a row of texts, whatever x is -/
def eqSV (y : Str) : V → Bool
  | .str z => y == z
  | _ => false
/-- a value of a built-in kind -/
inductive Plain (K : PySem.W.Frag) (H : Hp) : V → Prop
  | non : Plain K H .non | bl (b : Bool) : Plain K H (.bl b) | int (i : Int) : Plain K H (.int i) | str (x : Str) : Plain K H (.str x)
  | lst {a : Addr} {xs : List V} : SqL K H a xs → Plain K H (.ref a)
  | tup {a : Addr} {xs : List V} : SqT K H a xs → Plain K H (.ref a)
  | dK {a : Addr} {kvs : List (Key × V)} : H a = some (.dK kvs) → Plain K H (.ref a)
  | dT {a : Addr} {kvs : List (List Key × V)} : H a = some (.dT kvs) → Plain K H (.ref a)
section
variable {X : Cx} {pins : List (Addr × Obj)} {σ : L2.St} {H : Hp} {s : Shared}
theorem eqAt_plain (I : Inv X pins σ H s) {A : Around} (hu : A.units < cLine) {y : Str} {t : Tok} {x : V} {u : Value} (rx : RelV x u) (p : Plain X.K H x) : SeqAt.EqAt A s (.str y t) u (eqSV y x) := by
  cases p with
  | non => cases rx; exact SeqAt.EqAt.str_none y t
  | bl b => cases rx; exact SeqAt.EqAt.str_bool y t b
  | int i => obtain ⟨t', rfl⟩ := rx; exact SeqAt.EqAt.str_int y t i t'
  | str z => obtain ⟨t', rfl⟩ := rx; exact SeqAt.EqAt.str_str y t z t'
  | lst hq => cases rx; obtain ⟨its, _, pl, _⟩ := I.list hq; exact SeqAt.EqAt.str_list y t pl.isList hu
  | tup hq => cases rx; obtain ⟨its, _, pl, _⟩ := I.tuple hq; exact SeqAt.EqAt.str_tuple y t (show s.heap.IsTuple _ its.toArray from pl) hu
  | dK hq =>
    cases rx
    obtain ⟨_, _, vs, kv, o, es, ep, ho, hex, hdt, _⟩ := I.hok _ _ hq
    exact FeX.eq_str_dict y t ho hex.1 hdt hu
  | dT hq =>
    cases rx
    obtain ⟨_, _, vs, kv, o, es, ep, ho, hex, hdt, _⟩ := I.hok _ _ hq
    exact FeX.eq_str_dict y t ho hex.1 hdt hu
end
def rInS (K : PySem.W.Frag) (neg : Bool) : R2 := fun x y H Q => ∃ (p : Addr) (ys : List Str), y = .ref p ∧ (SqL K H p (ys.map V.str) ∨ SqT K H p (ys.map V.str)) ∧ Plain K H x ∧ Q (.bl (neg != ys.any fun z => eqSV z x)) H
def eqSU (x : V) (u : Value) : Bool := match u with
  | .str z _ => eqSV z x
  | _ => false
theorem strs_any (x : V) : ∀ {ys : List Str} {us : List Value}, Vals (ys.map V.str) us → us.any (eqSU x) = ys.any fun z => eqSV z x
  | [], _, .nil => rfl
  | y :: ys, _, .cons r t => by
    obtain ⟨tk, rfl⟩ := r
    rw [List.any_cons, List.any_cons, strs_any x t]; rfl
theorem strs_mem {us : List Value} {ys : List Str} (r : Vals (ys.map V.str) us) : ∀ u ∈ us, ∃ z t, u = .str z t := by
  induction ys generalizing us with
  | nil => cases r; intro u hu; cases hu
  | cons y ys ih =>
    cases r with
    | cons r t =>
      intro u hu
      rcases List.mem_cons.mp hu with e | e
      · obtain ⟨tk, h⟩ := r; exact ⟨y, tk, e.trans h⟩
      · exact ih t u e
theorem op_inS {X : Cx} (hu : X.A.units + 1 < cLine) : OpR X (compareOp .In) (rInS X.K false) := by
  intro pins s σ H x y v u Q I rx ry h
  obtain ⟨p, ys, rfl, hq, pl, q⟩ := h
  cases ry
  have each : ∀ {its : List Value}, Vals (ys.map V.str) its → ∀ z, z ∈ its.toArray → SeqAt.EqAt X.A.in1 s z v (eqSU x z) := fun rv z hz => by
    obtain ⟨a, t, rfl⟩ := strs_mem rv z (by simpa using hz)
    exact eqAt_plain I (by show X.A.units + 1 < cLine; exact hu) rx pl
  rcases hq with hq | hq
  · obtain ⟨its, rv, ⟨o, n, e1, e2, _, e3⟩, _⟩ := I.list hq
    refine SeqAt.in_listAt (eqSU x) ⟨o, e1, e2, n, e3⟩ (each rv) ⟨.bl _, H, I, ?_, q⟩
    show Value.bool _ = Value.bool _
    rw [← Array.any_toList, ← strs_any x rv]; simp
  · obtain ⟨its, rv, ht, _⟩ := I.tuple hq
    refine SeqAt.in_tupleAt (eqSU x) ht (each rv) ⟨.bl _, H, I, ?_, q⟩
    show Value.bool _ = Value.bool _
    rw [← Array.any_toList, ← strs_any x rv]; simp
theorem op_notInS {X : Cx} (hu : X.A.units + 1 < cLine) : OpR X (compareOp .NotIn) (rInS X.K true) := by
  intro pins s σ H x y v u Q I rx ry h
  obtain ⟨p, ys, rfl, hq, pl, q⟩ := h
  cases ry
  have each : ∀ {its : List Value}, Vals (ys.map V.str) its → ∀ z, z ∈ its.toArray → SeqAt.EqAt X.A.in1 s z v (eqSU x z) := fun rv z hz => by
    obtain ⟨a, t, rfl⟩ := strs_mem rv z (by simpa using hz)
    exact eqAt_plain I (by show X.A.units + 1 < cLine; exact hu) rx pl
  rcases hq with hq | hq
  · obtain ⟨its, rv, ⟨o, n, e1, e2, _, e3⟩, _⟩ := I.list hq
    refine SeqAt.notIn_listAt (eqSU x) ⟨o, e1, e2, n, e3⟩ (each rv) ⟨.bl _, H, I, ?_, q⟩
    show Value.bool _ = Value.bool _
    rw [← Array.any_toList, ← strs_any x rv]; simp
  · obtain ⟨its, rv, ht, _⟩ := I.tuple hq
    refine SeqAt.notIn_tupleAt (eqSU x) ht (each rv) ⟨.bl _, H, I, ?_, q⟩
    show Value.bool _ = Value.bool _
    rw [← Array.any_toList, ← strs_any x rv]; simp
def strsOf : List D → Option (List Str)
  | [] => some []
  | .str x :: ds => (strsOf ds).map (x :: ·)
  | _ => none
theorem strs_rp {K : PySem.W.Frag} {m : List Addr} {H : Hp} : ∀ {ds : List D} {vs : List V} {bs : List Str}, RpL K m H ds vs → strsOf ds = some bs → vs = bs.map V.str
  | [], _, _, .nil, h => by cases h; rfl
  | d :: ds, _, bs, .cons r t, h => by
    cases r with
    | str b =>
      simp only [strsOf] at h
      cases e : strsOf ds with
      | none => rw [e] at h; cases h
      | some cs => rw [e] at h; cases h; rw [strs_rp t e]; rfl
    | _ => cases h
def eqSD (y : Str) : D → Bool
  | .str z => y == z
  | _ => false
theorem plain_of {K : PySem.W.Frag} {m : List Addr} {H : Hp} {st : Sto} {d : D} {x : V} {t : String} (T : Tie K m H st) (r : Rp K m H d x) (h : tyName st d = some t) : Plain K H x ∧ ∀ y, eqSV y x = eqSD y d := by
  cases r with
  | non => exact ⟨.non, fun _ => rfl⟩
  | bl b => exact ⟨.bl b, fun _ => rfl⟩
  | int b => exact ⟨.int b, fun _ => rfl⟩
  | str b => exact ⟨.str b, fun _ => rfl⟩
  | tup hq rr => exact ⟨.tup (SqT.of hq), fun _ => rfl⟩
  | ptp hq rr => exact ⟨.tup hq.sq, fun _ => rfl⟩
  | rol hq rr => exact ⟨.lst hq.sq, fun _ => rfl⟩
  | loc hl =>
    simp only [tyName] at h
    split at h
    · rename_i hc
      obtain ⟨a, ha, c⟩ := T.addr hc
      rw [hl] at ha; cases ha
      obtain ⟨vs, hv, _⟩ := c
      exact ⟨.lst (SqL.of hv), fun _ => rfl⟩
    · rename_i hc
      obtain ⟨a, ha, c⟩ := T.addr hc
      rw [hl] at ha; cases ha
      obtain ⟨vs, hv, _⟩ := c
      exact ⟨.dK hv, fun _ => rfl⟩
    · rename_i hc
      obtain ⟨a, ha, c⟩ := T.addr hc
      rw [hl] at ha; cases ha
      obtain ⟨vs, hv, _⟩ := c
      exact ⟨.dT hv, fun _ => rfl⟩
    · cases h
  | exc hq rr => cases h
  | ty n => cases h
def gIn (neg : Bool) : D → D → M D := fun x y st => match (seqOf st y).bind strsOf, tyName st x with
  | some ys, some _ => some (.bl (neg != ys.any fun z => eqSD z x), st)
  | _, _ => none
theorem sr_in {K : PySem.W.Frag} {neg : Bool} : SR2 K (rInS K neg) (gIn neg) := by
  intro m H st x y dx dy Q d st' T rx ry h post
  simp only [gIn] at h
  split at h
  · rename_i ys tn h1 h2
    cases h
    cases hs : seqOf st dy with
    | none => rw [hs] at h1; cases h1
    | some xs =>
      rw [hs] at h1
      simp only [Option.bind_some] at h1
      obtain ⟨p, ws, e1, r1, q⟩ := seq_sq T ry hs
      subst e1
      have e2 := strs_rp r1 h1
      subst e2
      obtain ⟨pl, eqs⟩ := plain_of T rx h2
      refine ⟨p, ys, rfl, q, pl, ?_⟩
      have e3 : (ys.any fun z => eqSV z x) = ys.any fun z => eqSD z dx := by congr 1; funext z; exact eqs z
      rw [e3]
      exact post m H _ .refl T (.bl _)
  · cases h
/-- a sign in a text -/
def rSign (neg : Bool) : R2 := fun x y H Q => ∃ (c : Nat) (z : Str), x = .str ⟨#[c]⟩ ∧ y = .str z ∧ Q (.bl (neg != decide (c ∈ z.cps.toList))) H
theorem op_signIn {X : Cx} : OpR X (compareOp .In) (rSign false) := by
  intro pins s σ H x y v u Q I rx ry h
  obtain ⟨c, z, e1, e2, q⟩ := h
  exact op_in_sign pins s σ H x y v u Q I rx ry ⟨c, z, e1, e2, by simpa using q⟩
theorem op_signNot {X : Cx} : OpR X (compareOp .NotIn) (rSign true) := by
  intro pins s σ H x y v u Q I rx ry h
  obtain ⟨c, z, e1, e2, q⟩ := h
  exact op_notIn_sign pins s σ H x y v u Q I rx ry ⟨c, z, e1, e2, by simpa using q⟩
def gSign (neg : Bool) : D → D → M D := fun x y st => match x, y with
  | .str c, .str z => match c.cps.toList with
    | [k] => some (.bl (neg != decide (k ∈ z.cps.toList)), st)
    | _ => none
  | _, _ => none
theorem sr_sign {K : PySem.W.Frag} {neg : Bool} : SR2 K (rSign neg) (gSign neg) := by
  intro m H st x y dx dy Q d st' T rx ry h post
  cases rx with
  | str c =>
    cases ry with
    | str z =>
      simp only [gSign] at h
      split at h
      · rename_i k hk
        cases h
        have e : c = ⟨#[k]⟩ := by
          cases c with
          | mk a =>
            have : a = #[k] := Array.toList_inj.mp hk
            rw [this]
        subst e
        exact ⟨k, z, rfl, rfl, post m H _ .refl T (.bl _)⟩
      · cases h
    | _ => cases h
  | _ => cases h
end Fe
namespace Fe
open PySem PySem.Spec PyProof.Rows L2

/-! ## slices -/
def cutD (xs : List D) (lo hi : Option Int) : List D := (xs.drop (HT.sIx xs.length 0 lo)).take (HT.sIx xs.length xs.length hi - HT.sIx xs.length 0 lo)
theorem RpL.cut {K : PySem.W.Frag} {m : List Addr} {H : Hp} {ds : List D} {vs : List V} (r : RpL K m H ds vs) (lo hi : Option Int) : RpL K m H (cutD ds lo hi) (cutV vs lo hi) := by
  unfold cutD cutV
  rw [r.length]
  exact (r.drop _).take _
def gSl : D → Option Int → Option Int → M D := fun x lo hi st => match x with
  | .str z => if z.length ≤ sizeLine then some (.str (cutS z lo hi), st) else none
  | .tup xs => some (.tup (cutD xs lo hi), st)
  | .ptp xs => some (if HT.sIx xs.length 0 lo = 0 ∧ HT.sIx xs.length xs.length hi = xs.length then .ptp xs else .tup (cutD xs lo hi), st)
  | x => match lstOf st x with
    | some xs => some (.loc st.length, st ++ [.lst (cutD xs lo hi)])
    | none => none
def rSl (K : PySem.W.Frag) : V → Option Int → Option Int → Hp → VK → Prop := fun x lo hi H Q => rSlL K x lo hi H Q ∨ rSlA K x lo hi H Q ∨ rSlS x lo hi H Q
theorem sl_all {X : Cx} : SlR X (rSl X.K) := sl_list.or (sl_tupA.or sl_str)
theorem cut_whole {xs : List D} {lo hi : Option Int} (h : HT.sIx xs.length 0 lo = 0 ∧ HT.sIx xs.length xs.length hi = xs.length) : cutD xs lo hi = xs := by
  unfold cutD
  rw [h.1, h.2, List.drop_zero, Nat.sub_zero, List.take_length]
theorem sr_sl {K : PySem.W.Frag} : SRsl K (rSl K) gSl := by
  intro m H st x dx lo hi Q d st' T rx h post
  have lists : ∀ xs, lstOf st dx = some xs → some (D.loc st.length, st ++ [Cell.lst (cutD xs lo hi)]) = some (d, st') → rSl K x lo hi H Q := by
    intro xs hs h
    cases h
    obtain ⟨p, ws, e1, r1, q⟩ := lst_sq T rx hs
    subst e1
    exact .inl ⟨p, ws, rfl, q, fun l hl => post_lst T (r1.cut lo hi) post hl⟩
  cases dx with
  | str z =>
    cases rx
    simp only [gSl] at h
    split at h
    · rename_i hz
      cases h
      exact .inr (.inr ⟨z, rfl, hz, post m H _ .refl T (.str _)⟩)
    · cases h
  | tup xs =>
    cases h
    cases rx with
    | tup hq r =>
      rename_i a vs
      refine .inr (.inl ⟨a, vs, rfl, SqT.of hq, fun hw => ?_, fun hw p hp => post_tup T (r.cut lo hi) post hp⟩)
      rw [← r.length] at hw
      have e := cut_whole hw
      rw [e] at post
      exact post m H _ .refl T (.tup hq r)
  | ptp xs =>
    cases h
    cases rx with
    | ptp hq r =>
      rename_i a vs
      refine .inr (.inl ⟨a, vs, rfl, hq.sq, fun hw => ?_, fun hw p hp => ?_⟩)
      · rw [← r.length] at hw
        rw [if_pos hw] at post
        exact post m H _ .refl T (.ptp hq r)
      · rw [← r.length] at hw
        rw [if_neg hw] at post
        exact post_tup T (r.cut lo hi) post hp
  | rol xs => exact lists xs rfl h
  | loc l =>
    simp only [gSl] at h
    split at h
    · rename_i xs hs; exact lists xs hs h
    · cases h
  | _ => cases h

/-! ## t[::-1], xs[::-1] -/
theorem applied_rev {prog : Program} {w : World} {A : Around} {E : Value → Shared → Prop} {s : Shared} {sl : Addr} {t : Tok} {n : Nat} {Q : Int × Int × Nat → Shared → Prop} (hs : s.heap.IsSliceOf sl .none .none (.int (-1) t))
    (h : Q ((n : Int) - 1, -1, n) s) : wpAny (model prog w) A (Builtin.Slice.sliceApplied (.ref sl) (pure (n : Int))) Q E s := by
  obtain ⟨os, hos, hcs, hds⟩ := id hs
  unfold Builtin.Slice.sliceApplied Builtin.Slice.sliceFields
  refine wpAny_bind (wpAny_bind (wpAny_field hos hds (x := .none) rfl (wpAny_bind (wpAny_field hos hds (x := .none) rfl (wpAny_bind (wpAny_field hos hds (x := .int (-1) t) rfl (wpAny_pure ?_)))))))
  refine wpAny_bind (slicePart_int ?_)
  show wpAny _ _ (if (((-1 : Int)) == 0) = true then _ else _) _ _ s
  rw [if_neg (by decide)]
  refine wpAny_bind (slicePart_none (wpAny_bind (slicePart_none (wpAny_bind (wpAny_pure ?_)))))
  have e1 : Builtin.Slice.sliceAdjust none none (-1) (n : Int) = ((n : Int) - 1, -1) := by unfold Builtin.Slice.sliceAdjust; rfl
  have e2 : Builtin.Slice.slicePlaces ((n : Int) - 1) (-1) (-1) = n := by
    unfold Builtin.Slice.slicePlaces
    rw [if_neg (by decide)]
    by_cases hn : (n : Int) - 1 > -1
    · rw [if_pos hn, show (-(-1) : Int) = 1 from rfl, Int.ediv_one]; omega
    · rw [if_neg hn]; omega
  show wpAny _ _ (match Builtin.Slice.sliceAdjust none none (-1) (n : Int) with | (lo, hi) => pure (lo, (-1 : Int), Builtin.Slice.slicePlaces lo hi (-1))) _ _ s
  rw [e1]
  show wpAny _ _ (pure ((n : Int) - 1, (-1 : Int), Builtin.Slice.slicePlaces ((n : Int) - 1) (-1) (-1))) _ _ s
  rw [e2]
  exact wpAny_pure h
theorem fm_map {α β : Type} {f : α → Option β} {g : α → β} : ∀ {l : List α}, (∀ x, x ∈ l → f x = some (g x)) → l.filterMap f = l.map g
  | [], _ => rfl
  | x :: l, h => by
    rw [List.filterMap_cons, h x (List.mem_cons_self ..), List.map_cons, fm_map fun y hy => h y (List.mem_cons_of_mem _ hy)]
theorem pick_rev (xs : Array Value) : ((List.range xs.size).filterMap fun (k : Nat) => xs[(((xs.size : Int) - 1) + (k : Int) * (-1)).toNat]?).toArray = xs.toList.reverse.toArray := by
  congr 1
  have e : ∀ k, k ∈ List.range xs.size → xs[(((xs.size : Int) - 1) + (k : Int) * (-1)).toNat]? = some (xs.toList.reverse.getD k .none) := by
    intro k hk
    have hk' : k < xs.size := List.mem_range.mp hk
    have e1 : (((xs.size : Int) - 1) + (k : Int) * (-1)).toNat = xs.size - 1 - k := by omega
    rw [e1, Array.getElem?_eq_getElem (by omega), List.getD_eq_getElem?_getD, List.getElem?_reverse (by simpa using hk'), Array.length_toList, Array.getElem?_toList, Array.getElem?_eq_getElem (by omega)]
    rfl
  have e2 : (List.range xs.size).filterMap (fun (k : Nat) => xs[(((xs.size : Int) - 1) + (k : Int) * (-1)).toNat]?) = (List.range xs.size).map fun k => xs.toList.reverse.getD k .none := by
    exact fm_map e
  rw [e2]
  apply List.ext_getElem
  · rw [List.length_map, List.length_range, List.length_reverse, Array.length_toList]
  · intro i h1 h2
    rw [List.getElem_map, List.getElem_range, List.getD_eq_getElem?_getD, List.getElem?_eq_getElem h2]
    rfl
theorem getItem_tuple_rev {prog : Program} {w : World} {A : Around} {E : Value → Shared → Prop} {s : Shared} {t sl : Addr} {items : Array Value} {tk : Tok} {Q : Value → Shared → Prop} (ht : IsTup s.heap t items) (hs : s.heap.IsSliceOf sl .none .none (.int (-1) tk))
    (h : Q (.ref s.heap.objs.size) { s with heap := s.heap.push { cls := .type "tuple", data := .seq items.toList.reverse.toArray } }) (hsz : items.size ≤ sizeLine) : wpAny (model prog w) A (getItem (.ref t) (.ref sl)) Q E s := by
  have okz : sizeOk (.seq items.toList.reverse.toArray) := by
    show items.toList.reverse.toArray.size ≤ sizeLine
    rw [List.size_toArray, List.length_reverse, Array.length_toList]; exact hsz
  obtain ⟨os, hos, hcs, hds⟩ := id hs
  have hTs : s.TypeIs (.ref sl) "slice" := ⟨os, hos, hcs⟩
  unfold getItem
  try with_reducible refine wpAny_holding ?_
  first | refine wpAny_bind (wpAny_pure ?_) | skip
  refine wpAny_bind (wpAny_sequenceKey ht.typeIs (by decide) ?_)
  refine wpAny_bind (wpAny_callSpecial?_slot (name := Str.ofString "__getitem__") ht.typeIs PyProof.Rows.slot_tuple_getitem (wpAny_call_entry PyProof.Rows.slot_tuple_getitem ht.typeIs PyProof.Rows.entry_tuple_getitem ?_ (PyProof.Rows.args_tuple_getitem _ _)))
  show wpAny _ _ (Builtin.Tuple.tupleItemsOf (.ref t) >>= _) _ _ s
  refine wpAny_bind (tupleItemsOf_ ht ?_)
  refine wpAny_bind (wpAny_typeOf hTs ?_)
  rw [if_pos (by decide)]
  refine wpAny_bind (applied_rev (n := items.size) hs ?_)
  have no : ¬ ((((items.size : Int) - 1) == 0 && (-1 : Int) == 1 && items.size == items.size) = true) := by
    rw [Bool.and_eq_true, Bool.and_eq_true]
    rintro ⟨⟨_, z⟩, _⟩
    exact absurd z (by decide)
  show wpAny _ _ (if (((items.size : Int) - 1) == 0 && (-1 : Int) == 1 && items.size == items.size) = true then _ else _) _ _ s
  rw [if_neg no, pick_rev]
  exact wpAny_bind (m := Builtin.Tuple.tupleExact _) (wpAny_newObj_type (wpAny_pure ⟨_, rfl, wpAny_pure h⟩) okz)
def tRevA (K : PySem.W.Frag) (te : TE) : TE := fun σ H Q => te σ H fun x H1 => (∃ a xs, x = .ref a ∧ SqL K H1 a xs ∧ ∀ p, H1 p = none → Q (.ref p) (upd H1 p (.lst xs.reverse))) ∨ (∃ a xs, x = .ref a ∧ SqT K H1 a xs ∧ ∀ p, H1 p = none → Q (.ref p) (upd H1 p (.tup xs.reverse)))
theorem pe_revA {X : Cx} {e : Expr} {te : TE} {k : Nat} {p1 p2 p3 pos : Pos} (he : PE X e te) : PE X (.Subscript e (.Slice none none (some (.UnaryOp .USub (.Constant (.int 1) k p1) p2)) p3) pos) (tRevA X.K te) := by
  refine ⟨fun pins s σ H Q I h => ?_⟩
  refine Subscript_ (thn (he.run pins s σ H _ I h) fun v t1 ⟨x, G1, J1, r1, q1⟩ => ?_)
  have step : PO X (some (.UnaryOp .USub (.Constant (.int 1) k p1) p2)) (tPart (tUn (rU fun i => .int (-i)) (tC (.int 1)))) := po_some (pe_un un_neg pe_int)
  refine wpAny_Slice (thn (po_none.run pins t1 σ G1 (fun o G2 => o = none ∧ G2 = G1) J1 ⟨rfl, rfl⟩) fun low t2 ⟨l, G2, J2, pl, el, e2⟩ => ?_)
  subst el e2
  refine thn (po_none.run pins t2 σ G2 (fun o G3 => o = none ∧ G3 = G2) J2 ⟨rfl, rfl⟩) fun upp t3 ⟨u, G3, J3, pu, eu, e3⟩ => ?_
  subst eu e3
  refine thn (step.run pins t3 σ G3 (fun o G4 => o = some (-1) ∧ G4 = G3) J3 ⟨1, rfl, -1, rfl, rfl, rfl⟩) fun stv t4 ⟨o, G4, J4, ps, eo, e4⟩ => ?_
  subst eo e4
  have J5 : Inv X pins σ G4 { t4 with heap := t4.heap.push { cls := .type "slice", data := .fields #[low, upp, stv] } } := J4.kept (t' := t4.toks) fun b ob q => Heap.get?_push_of_some _ q
  rcases q1 with ⟨a, xs, ex, hx, q⟩ | ⟨a, xs, ex, hx, q⟩
  · subst ex
    cases r1
    obtain ⟨us, r, seq, short⟩ := J5.list hx
    have len := r.length
    show wpAny (model X.prog X.w) X.A (subscriptTail e (.Slice none none (some (.UnaryOp .USub (.Constant (.int 1) k p1) p2)) p3) (.ref a) (.ref t4.heap.objs.size)) (EP X pins σ Q) X.xe { t4 with heap := t4.heap.push { cls := .type "slice", data := .fields #[low, upp, stv] } }
    refine tail_any (ops := [.ref a, .ref t4.heap.objs.size]) seq.isList.typeIs (PySem.slot_list_getitem.lookup) ?_ (by with_unfolding_all rfl)
    refine wpAny_getItem_list_slice seq.isList (Heap.IsSliceOf.new _ low upp stv) pl pu ps (by decide) ?_ (by rw [List.size_toArray]; omega)
    rw [PySem.W.krv_pick]
    refine ⟨.ref _, _, J5.laid (t' := t4.toks) (o := .lst xs.reverse) (fun b ob q => Heap.get?_push_of_some _ q) (Nat.le_refl _) ?_, rfl, q _ (J5.hok.fresh (Nat.le_refl _))⟩
    exact ⟨by rw [List.length_reverse]; exact short, _, 0, r.reverse, Heap.get?_push_size _ rfl⟩
  · subst ex
    cases r1
    obtain ⟨us, r, seq, short⟩ := J5.tuple hx
    have len := r.length
    cases pl
    cases pu
    cases ps with
    | int i t =>
      show wpAny (model X.prog X.w) X.A (subscriptTail e (.Slice none none (some (.UnaryOp .USub (.Constant (.int 1) k p1) p2)) p3) (.ref a) (.ref t4.heap.objs.size)) (EP X pins σ Q) X.xe { t4 with heap := t4.heap.push { cls := .type "slice", data := .fields #[.none, .none, .int (-1) t] } }
      refine tail_any (ops := [.ref a, .ref t4.heap.objs.size]) seq.typeIs (PyProof.Rows.slot_tuple_getitem.lookup) ?_ (by with_unfolding_all rfl)
      refine getItem_tuple_rev (tk := t) seq (Heap.IsSliceOf.new _ .none .none (.int (-1) t)) ?_ (by rw [List.size_toArray]; omega)
      refine ⟨.ref _, _, J5.laid (t' := t4.toks) (o := .tup xs.reverse) (fun b ob q => Heap.get?_push_of_some _ q) (Nat.le_refl _) ?_, rfl, q _ (J5.hok.fresh (Nat.le_refl _))⟩
      exact ⟨by rw [List.length_reverse]; exact short, _, r.reverse, ⟨_, Heap.get?_push_size _ rfl, rfl, 0, by simp⟩⟩
def eRev (f : Fx) : Fx := fun r => bnd (f r) fun d st => match d with
  | .tup xs => some (.tup xs.reverse, st)
  | .ptp xs => some (.tup xs.reverse, st)
  | d => match lstOf st d with
    | some xs => some (.loc st.length, st ++ [.lst xs.reverse])
    | none => none
theorem fe_rev {X : Cx} {e : Expr} {f : Fx} {k : Nat} {p1 p2 p3 pos : Pos} (h : FE X e f) : FE X (.Subscript e (.Slice none none (some (.UnaryOp .USub (.Constant (.int 1) k p1) p2)) p3) pos) (eRev f) := by
  obtain ⟨t, p, sd⟩ := h
  refine ⟨_, pe_revA p, fun m H st r σ Q d st' T E hf post => ?_⟩
  obtain ⟨x, s1, h1, hf⟩ := bnd_some hf
  refine sd m H st r σ _ x s1 T E h1 fun m1 H1 v l1 T1 r1 => ?_
  cases x with
  | tup xs =>
    cases hf
    cases r1 with
    | tup hq rr => exact .inr ⟨_, _, rfl, SqT.of hq, fun p hp => post_tup T1 rr.reverse (Pst.le l1 post) hp⟩
  | ptp xs =>
    cases hf
    cases r1 with
    | ptp hq rr => exact .inr ⟨_, _, rfl, hq.sq, fun p hp => post_tup T1 rr.reverse (Pst.le l1 post) hp⟩
  | rol xs =>
    cases hf
    obtain ⟨p, ws, e1, rr, q⟩ := lst_sq T1 r1 (show lstOf s1 (.rol xs) = some xs from rfl)
    subst e1
    exact .inl ⟨p, ws, rfl, q, fun l hl => post_lst T1 rr.reverse (Pst.le l1 post) hl⟩
  | loc l =>
    simp only at hf
    split at hf
    · rename_i xs hs
      cases hf
      obtain ⟨p, ws, e1, rr, q⟩ := lst_sq T1 r1 hs
      subst e1
      exact .inl ⟨p, ws, rfl, q, fun l hl => post_lst T1 rr.reverse (Pst.le l1 post) hl⟩
    · cases hf
  | _ => cases hf
end Fe
namespace Fe
open PySem PySem.Spec PyProof.Rows L2

/-! ## subscripts -/
theorem RpL.atI {K : PySem.W.Frag} {m : List Addr} {H : Hp} {ds : List D} {vs : List V} {i : Int} {d : D} (r : RpL K m H ds vs) (h : L2.atI ds i = some d) : ∃ v, L2.atI vs i = some v ∧ Rp K m H d v := by
  unfold L2.atI at h ⊢
  rw [← r.length]
  cases e : ixN ds.length i with
  | none => rw [e] at h; cases h
  | some j => rw [e] at h; exact r.get h
def gIx : D → D → M D := fun x y st => match x, y with
  | .str z, .int i => if z.length ≤ sizeLine then (L2.atI z.cps.toList i).map fun c => (.str ⟨#[c]⟩, st) else none
  | x, .int i => ((seqOf st x).bind fun xs => L2.atI xs i).map fun d => (d, st)
  | _, _ => none
theorem sr_ix {K : PySem.W.Frag} : SR2 K (rIx K) gIx := by
  intro m H st x y dx dy Q d st' T rx ry h post
  have rows : ∀ i xs e, dy = .int i → seqOf st dx = some xs → L2.atI xs i = some e → some (e, st) = some (d, st') → rIx K x y H Q := by
    intro i xs e ey hs he h2
    clear h
    subst ey
    cases ry
    cases h2
    obtain ⟨p, ws, e1, r1, q⟩ := seq_sq T rx hs
    subst e1
    obtain ⟨v, hv, rv⟩ := r1.atI he
    rcases q with q | q
    · exact .inl ⟨p, ws, i, v, rfl, rfl, q, hv, post m H v .refl T rv⟩
    · exact .inr (.inl ⟨p, ws, i, v, rfl, rfl, q, hv, post m H v .refl T rv⟩)
  cases dy with
  | int i =>
    cases dx with
    | str z =>
      cases rx
      cases ry
      simp only [gIx] at h
      split at h
      · rename_i hz
        cases hc : L2.atI z.cps.toList i with
        | none => rw [hc] at h; cases h
        | some c => rw [hc] at h; cases h; exact .inr (.inr ⟨z, i, c, rfl, rfl, hz, hc, post m H _ .refl T (.str _)⟩)
      · cases h
    | _ =>
      simp only [gIx] at h
      cases hs : seqOf st _ with
      | none => rw [hs] at h; cases h
      | some xs =>
        rw [hs] at h
        simp only [Option.bind_some] at h
        cases he : L2.atI xs i with
        | none => rw [he] at h; cases h
        | some e => rw [he] at h; exact rows i xs e rfl hs he h
  | _ => cases dx <;> cases h
/-- xs[i], xs[i] = v of a list -/
def gGetL : D → D → M D := fun x y st => match x, y with
  | .loc l, .int i => match st[l]? with
    | some (.lst xs) => if 0 ≤ i then (xs[i.toNat]?).map fun d => (d, st) else none
    | _ => none
  | _, _ => none
def rGetL (K : PySem.W.Frag) : R2 := fun x y H Q => ∃ p xs i v, x = .ref p ∧ y = .int i ∧ SqL K H p xs ∧ 0 ≤ i ∧ xs[i.toNat]? = some v ∧ Q v H
theorem get_list {X : Cx} : PGet X (rGetL X.K) := by
  intro pins s σ H o i ov iv Q I ro ri h
  obtain ⟨p, xs, k, v, rfl, rfl, hq, h0, hv, q⟩ := h
  cases ro
  obtain ⟨t, rfl⟩ := ri
  obtain ⟨its, r, pl, hz⟩ := I.list hq
  obtain ⟨w, ew, rw'⟩ := r.get hv
  have hn := line63
  have hlt := (List.getElem?_eq_some_iff.mp hv).1
  exact wpAny_getItem_list pl.isList h0 (by omega) (by simpa using ew) ⟨v, H, I, rw', q⟩
theorem sr_getL {K : PySem.W.Frag} : SR2 K (rGetL K) gGetL := by
  intro m H st x y dx dy Q d st' T rx ry h post
  cases dx with
  | loc l =>
    cases dy with
    | int i =>
      cases ry
      simp only [gGetL] at h
      split at h
      · rename_i xs hc
        split at h
        · rename_i h0
          cases he : xs[i.toNat]? with
          | none => rw [he] at h; cases h
          | some e =>
            rw [he] at h; cases h
            obtain ⟨a, vs, e1, _, hv, r⟩ := T.list hc rx
            subst e1
            obtain ⟨v, h1, h2⟩ := r.get he
            exact ⟨a, vs, i, v, rfl, rfl, SqL.of hv, h0, h1, post m H v .refl T h2⟩
        · cases h
      · cases h
    | _ => cases h
  | _ => cases h
def gSetL : D → D → D → M Unit := fun x y v st => match x, y with
  | .loc l, .int i => match st[l]? with
    | some (.lst xs) => if 0 ≤ i ∧ i < xs.length then some ((), st.set l (.lst (xs.set i.toNat v))) else none
    | _ => none
  | _, _ => none
theorem srs_setL {K : PySem.W.Frag} : SRset K rSetL gSetL := by
  intro m H st o i v o' i' v' Q st' T ro ri rv h post
  cases o' with
  | loc l =>
    cases i' with
    | int k =>
      cases ri
      simp only [gSetL] at h
      split at h
      · rename_i xs hc
        split at h
        · rename_i hk
          cases h
          obtain ⟨a, vs, e1, hl, hv, r⟩ := T.list hc ro
          subst e1
          refine ⟨a, vs, k, k.toNat, rfl, rfl, hv, ?_, ?_⟩
          · unfold ixN
            rw [if_pos hk.1, if_pos (by rw [← r.length]; exact hk.2)]
          · obtain ⟨T', le⟩ := T.change (c := .lst (xs.set k.toNat v')) (o := .lst (vs.set k.toNat v)) hl fun H' le e => ⟨_, e, RpL.mono le _ _ (r.set _ rv)⟩
            exact post m _ le T'
        · cases h
      · cases h
    | _ => cases h
  | _ => cases h

/-! ## methods -/
theorem fe_bm {X : Cx} {ty id : String} {name : Str} {r : V → List V → Hp → VK → Prop} {g : D → List D → M D} {o e : Expr} {es : List Expr} {fo : Fx} {fa : Fa} {apos cpos : Pos} (pa : PlainAttrs ty) (slot : Slot ty name id) (hty : typeOf (.builtin id) = pure (.type "method_descriptor")) (hm : MtR X id r)
    (hs : SRm X.K r g) (ht : ∀ (m : List Addr) (H : Hp) (st st' : Sto) (x : V) (dx : D) (ds : List D) (q : D × Sto) (r : DEnv) , Tie X.K m H st → Rp X.K m H dx x → fa r st = some (ds, st') → g dx ds st' = some q → tyV X.K ty x H) (ho : FE X o fo) (ha : FA X (e :: es) fa)
    (hbase : attributeBase o name X.env (eval o X.env) = eval o X.env := by rfl)
    (hfew : ((backTo cpos (starEach (e :: es) X.env)).all (fun x => !x.1) && (backToKw cpos (keywordEach [] X.env)).all (fun x => x.1.isSome)
      && decide ((e :: es).length + ([] : List Keyword).length + (if ([] : List Keyword).isEmpty then 0 else 1) < 30)) = true := by rfl)
    (hline : (apos.endLine == cpos.line) = true := by rfl) (hst : starEach (e :: es) X.env = (false, eval e X.env) :: starEach es X.env := by rfl) (hplain : (backTo cpos (starEach es X.env)).any (·.1) = false := by rfl) :
    FE X (.Call (.Attribute o name apos) (e :: es) [] cpos) (eMeth g fo fa) := by
  obtain ⟨to, po, so⟩ := ho
  obtain ⟨t, p, sa⟩ := ha
  refine ⟨_, pe_bm pa slot hty hm po p hbase hfew hline hst hplain, fun m H st ρ σ Q d st' T E hf post => ?_⟩
  obtain ⟨x, s1, h1, hf⟩ := bnd_some hf
  obtain ⟨ds, s2, h2, hf⟩ := bnd_some hf
  refine so m H st ρ σ _ x s1 T E h1 fun m1 H1 v l1 T1 r1 => ⟨ht m1 H1 s1 s2 v x ds _ ρ T1 r1 h2 hf, ?_⟩
  refine sa m1 H1 s1 ρ σ _ ds s2 T1 (E.mono l1) h2 fun m2 H2 vs l2 T2 r2 => ?_
  exact hs m2 H2 s2 v x vs ds Q d st' T2 (Rp.mono l2 _ _ r1) r2 hf (Pst.le (l1.trans l2) post)
theorem fe_bm0 {X : Cx} {ty id : String} {name : Str} {r : V → List V → Hp → VK → Prop} {g : D → List D → M D} {o : Expr} {fo : Fx} {apos cpos : Pos} (pa : PlainAttrs ty) (slot : Slot ty name id) (hty : typeOf (.builtin id) = pure (.type "method_descriptor")) (hm : MtR X id r)
    (hs : SRm X.K r g) (ht : ∀ (m : List Addr) (H : Hp) (st : Sto) (x : V) (dx : D) (q : D × Sto), Tie X.K m H st → Rp X.K m H dx x → g dx [] st = some q → tyV X.K ty x H) (ho : FE X o fo)
    (hbase : attributeBase o name X.env (eval o X.env) = eval o X.env := by rfl) (hline : (apos.endLine == cpos.line) = true := by rfl) : FE X (.Call (.Attribute o name apos) [] [] cpos) (eMeth g fo aNil) := by
  obtain ⟨to, po, so⟩ := ho
  refine ⟨_, pe_bm0 pa slot hty hm po hbase hline, fun m H st ρ σ Q d st' T E hf post => ?_⟩
  obtain ⟨x, s1, h1, hf⟩ := bnd_some hf
  obtain ⟨ds, s2, h2, hf⟩ := bnd_some hf
  cases h2
  refine so m H st ρ σ _ x s1 T E h1 fun m1 H1 v l1 T1 r1 => ⟨ht m1 H1 s1 v x _ T1 r1 hf, ?_⟩
  exact hs m1 H1 s1 v x [] [] Q d st' T1 r1 .nil hf (Pst.le l1 post)
/-- a list's cell: what a method needs -/
def gAppend : D → List D → M D := fun x ds st => match x, ds with
  | .loc l, [d] => match st[l]? with
    | some (.lst xs) => if xs.length < sizeLine then some (.non, st.set l (.lst (xs ++ [d]))) else none
    | _ => none
  | _, _ => none
def isLoc (f : Sto → Option (List D)) : Prop := True
theorem sr_append {K : PySem.W.Frag} : SRm K rAppend gAppend := by
  intro m H st x dx vs ds Q d st' T rx rs h post
  cases dx with
  | loc l =>
    match ds, rs with
    | [e], .cons re .nil =>
      simp only [gAppend] at h
      split at h
      · rename_i xs hc
        split at h
        · rename_i hz
          cases h
          obtain ⟨a, ws, e1, hl, hv, r⟩ := T.list hc rx
          subst e1
          refine ⟨a, ws, _, rfl, rfl, hv, by rw [← r.length]; exact hz, ?_⟩
          obtain ⟨T', le⟩ := T.change (c := .lst (xs ++ [e])) (o := .lst (ws ++ [_])) hl fun H' le e' => ⟨_, e', RpL.mono le _ _ (RpL.app r (.cons re .nil))⟩
          exact post m _ _ le T' .non
        · cases h
      · cases h
  | _ => cases h
def gInsert : D → List D → M D := fun x ds st => match x, ds with
  | .loc l, [.int i, d] => match st[l]? with
    | some (.lst xs) => if xs.length < sizeLine ∧ 0 ≤ i ∧ i < 2 ^ 63 then some (.non, st.set l (.lst (xs.take i.toNat ++ [d] ++ xs.drop i.toNat))) else none
    | _ => none
  | _, _ => none
theorem sr_insert {K : PySem.W.Frag} : SRm K (fun x vs H Q => ∃ (l : Addr) (xs : List V) (i : Int) (y : V), x = .ref l ∧ vs = [.int i, y] ∧ H l = some (.lst xs) ∧ xs.length < sizeLine ∧ 0 ≤ i ∧ i < 2 ^ 63 ∧ Q .non (upd H l (.lst (xs.take i.toNat ++ [y] ++ xs.drop i.toNat)))) gInsert := by
  intro m H st x dx vs ds Q d st' T rx rs h post
  cases dx with
  | loc l =>
    match ds, rs with
    | [.int i, e], .cons (.int _) (.cons re .nil) =>
      simp only [gInsert] at h
      split at h
      · rename_i xs hc
        split at h
        · rename_i hz
          cases h
          obtain ⟨a, ws, e1, hl, hv, r⟩ := T.list hc rx
          subst e1
          refine ⟨a, ws, i, _, rfl, rfl, hv, by rw [← r.length]; exact hz.1, hz.2.1, hz.2.2, ?_⟩
          obtain ⟨T', le⟩ := T.change (c := .lst (xs.take i.toNat ++ [e] ++ xs.drop i.toNat)) (o := .lst (ws.take i.toNat ++ [_] ++ ws.drop i.toNat)) hl fun H' le e' => ⟨_, e', RpL.mono le _ _ (RpL.app (RpL.app (r.take _) (.cons re .nil)) (r.drop _))⟩
          exact post m _ _ le T' .non
        · cases h
      · cases h
  | _ => cases h
def gExtend : D → List D → M D := fun x ds st => match x, ds with
  | .loc l, [.loc b] => match st[l]?, st[b]? with
    | some (.lst xs), some (.lst ys) => if xs.length + ys.length ≤ sizeLine then some (.non, st.set l (.lst (xs ++ ys))) else none
    | _, _ => none
  | _, _ => none
theorem sr_extend {K : PySem.W.Frag} : SRm K rExtend gExtend := by
  intro m H st x dx vs ds Q d st' T rx rs h post
  cases dx with
  | loc l =>
    match ds, rs with
    | [.loc b], .cons re .nil =>
      simp only [gExtend] at h
      split at h
      · rename_i xs ys hc hc2
        split at h
        · rename_i hz
          cases h
          obtain ⟨a, ws, e1, hl, hv, r⟩ := T.list hc rx
          obtain ⟨a2, ws2, e2, hl2, hv2, r2⟩ := T.list hc2 re
          subst e1 e2
          refine ⟨a, a2, ws, ws2, rfl, rfl, hv, hv2, by rw [← r.length, ← r2.length]; exact hz, ?_⟩
          obtain ⟨T', le⟩ := T.change (c := .lst (xs ++ ys)) (o := .lst (ws ++ ws2)) hl fun H' le e' => ⟨_, e', RpL.mono le _ _ (RpL.app r r2)⟩
          exact post m _ _ le T' .non
        · cases h
      · cases h
  | _ => cases h
theorem ty_loc {K : PySem.W.Frag} {m : List Addr} {H : Hp} {st : Sto} {l : Nat} {x : V} (T : Tie K m H st) (r : Rp K m H (.loc l) x) {xs : List D} (h : ∃ st' : Sto, st'[l]? = some (.lst xs) ∧ True) (hh : ∃ ys, st[l]? = some (.lst ys)) : tyV K "list" x H := by
  obtain ⟨ys, hy⟩ := hh
  obtain ⟨a, vs, e, _, hv, _⟩ := T.list hy r
  subst e
  exact .inl ⟨rfl, vs, SqL.of hv⟩
/-- texts -/
def gUpper : D → List D → M D := fun x ds st => match x, ds with
  | .str a, [] => if a.length ≤ 5592405 then some (.str (Txt.upper a), st) else none
  | _, _ => none
theorem sr_upper {K : PySem.W.Frag} : SRm K (fun x xs H Q => ∃ a, x = .str a ∧ xs = [] ∧ a.length ≤ 5592405 ∧ Q (.str (Txt.upper a)) H) gUpper := by
  intro m H st x dx vs ds Q d st' T rx rs h post
  cases rx with
  | str a =>
    cases rs with
    | nil =>
      simp only [gUpper] at h
      split at h
      · rename_i hz; cases h; exact ⟨a, rfl, rfl, hz, post m H _ .refl T (.str _)⟩
      · cases h
    | cons _ _ => cases h
  | _ => cases h
theorem ty_upper {K : PySem.W.Frag} (m : List Addr) (H : Hp) (st : Sto) (x : V) (dx : D) (q : D × Sto) (T : Tie K m H st) (r : Rp K m H dx x) (h : gUpper dx [] st = some q) : tyV K "str" x H := by
  cases r with
  | str a => exact rfl
  | _ => cases h
/-- text * int -/
def repS (z : Str) (n : Nat) : Str := if z.length = 0 then z else ⟨(List.replicate n z.cps).foldl (· ++ ·) #[]⟩
def rMulS : R2 := fun x y H Q => ∃ (z : Str) (n : Int), x = .str z ∧ y = .int n ∧ 2 ≤ n ∧ n ≤ 1000 ∧ z.length ≤ 1000 ∧ Q (.str (repS z n.toNat)) H
theorem rep_len (a : Array Nat) : ∀ (n : Nat) (acc : Array Nat), ((List.replicate n a).foldl (· ++ ·) acc).size = acc.size + n * a.size
  | 0, acc => by simp
  | n + 1, acc => by
    rw [List.replicate_succ, List.foldl_cons, rep_len a n, Array.size_append, Nat.add_mul, Nat.one_mul]; omega
theorem op_mulS {X : Cx} : OpR X (binaryOp .Mult) rMulS := by
  intro pins s σ H x y v u Q I rx ry h
  obtain ⟨z, n, rfl, rfl, h1, h2, h3, q⟩ := h
  obtain ⟨t, rfl⟩ := rx
  obtain ⟨t', rfl⟩ := ry
  have n1 : ¬ n < 1 := by omega
  have hn1 : (n == 1) = false := by simp; omega
  have bound : z.length * n.toNat ≤ 1000000 := Nat.le_trans (Nat.mul_le_mul h3 (show n.toNat ≤ 1000 by omega)) (by decide)
  have hline := sizeLine_eq
  refine PySem.P.mul_str ?_ ?_ ?_ ?_
  · rw [decide_eq_false (show ¬ n < -(2 ^ 63 : Int) by omega), decide_eq_false (show ¬ n ≥ 2 ^ 63 by omega)]; rfl
  · intro _ _
    have e : (2 ^ 63 - 1 : Int) / n ≥ 1000 := by
      have : (1000 : Int) * n ≤ 2 ^ 63 - 1 := by omega
      exact (Int.le_ediv_iff_mul_le (by omega)).mpr this
    omega
  · intro _ _
    unfold Builtin.Str.tooLong
    first
      | (simp only [decide_eq_false_iff_not]; omega)
      | (simp; omega)
  · rw [if_neg n1]
    by_cases hz : z.length = 0
    · have e : (n == 1 || z.length == 0) = true := by rw [hz]; simp
      rw [if_pos e]
      unfold repS at q
      rw [if_pos hz] at q
      exact ⟨.str z, H, I, ⟨_, rfl⟩, q⟩
    · have e : ¬ (n == 1 || z.length == 0) = true := by rw [hn1]; simp; exact hz
      rw [if_neg e]
      unfold repS at q
      rw [if_neg hz] at q
      refine ⟨?_, .str _, H, I.tok _, ⟨_, rfl⟩, q⟩
      show ((List.replicate n.toNat z.cps).foldl (· ++ ·) #[]).size ≤ sizeLine
      rw [rep_len]
      have e2 : n.toNat * z.cps.size = z.length * n.toNat := Nat.mul_comm _ _
      rw [e2]
      show 0 + z.length * n.toNat ≤ sizeLine
      omega
def gMulS : D → D → M D := fun x y st => match x, y with
  | .str z, .int n => if 2 ≤ n ∧ n ≤ 1000 ∧ z.length ≤ 1000 then some (.str (repS z n.toNat), st) else none
  | _, _ => none
theorem sr_mulS {K : PySem.W.Frag} : SR2 K rMulS gMulS := by
  intro m H st x y dx dy Q d st' T rx ry h post
  cases rx with
  | str z =>
    cases ry with
    | int n =>
      simp only [gMulS] at h
      split at h
      · rename_i hz; cases h; exact ⟨z, n, rfl, rfl, hz.1, hz.2.1, hz.2.2, post m H _ .refl T (.str _)⟩
      · cases h
    | _ => cases h
  | _ => cases h
end Fe
namespace Fe
open PySem PySem.Spec PyProof.Rows L2 RZ

/-! ## what loops go over -/
def okAll : Sto → Bool := fun _ => true
def okLst (l : Nat) (xs : List D) : Sto → Bool := fun st => match st[l]? with
  | some (.lst ys) => D.sameL ys xs
  | _ => false
def iSeq (f : Fx) : Fi := fun r => bnd (f r) fun d st => match d with
  | .tup xs => some ((xs, okAll), st)
  | .ptp xs => some ((xs, okAll), st)
  | .rol xs => some ((xs, okAll), st)
  | .loc l => match st[l]? with
    | some (.lst xs) => some ((xs, okLst l xs), st)
    | _ => none
  | .str z => some ((z.cps.toList.map fun c => .str ⟨#[c]⟩, okAll), st)
  | _ => none
theorem PI.or {X : Cx} {tg e : Expr} {w1 w2 : TI} (h1 : PI X tg e w1) (h2 : PI X tg e w2) : PI X tg e (fun σ H R => w1 σ H R ∨ w2 σ H R) :=
  ⟨fun pins s σ H R I h => h.elim (h1.run pins s σ H R I) (h2.run pins s σ H R I)⟩
section
variable {K : PySem.W.Frag} {m : List Addr} {H : Hp}
theorem SqT.inj2 {P : Program} : True := trivial
theorem jok_tup {a : Addr} {vs : List V} {xs : List D} (hq : SqT K H a vs) (r : RpL K m H xs vs) (inj : ∀ (m1 : List Addr) (H1 : Hp), Lw m H m1 H1 → ∀ ws, SqT K H1 a ws → ws = vs) : JOk K (Itt K a) m H xs okAll := by
  intro m1 H1 st le T _ i
  have r1 := RpL.monoW le _ _ r
  refine ⟨fun d hd => ?_, fun hi => ⟨vs, SqT.monoW le hq, by rw [← r1.length]; exact Nat.le_of_eq hi⟩⟩
  obtain ⟨v, hv, rv⟩ := r1.get hd
  refine ⟨⟨vs, v, SqT.monoW le hq, hv⟩, fun x H2 y => ?_⟩
  obtain ⟨e, y⟩ := y
  subst e
  have q := y vs (SqT.monoW le hq)
  rw [hv] at q; cases q
  exact ⟨.refl, T, rv⟩
end
theorem jok_tup' {K : PySem.W.Frag} {m : List Addr} {H : Hp} {a : Addr} {vs : List V} {xs : List D} (hq : SqT K H a vs) (r : RpL K m H xs vs) : JOk K (Itt K a) m H xs okAll := by
  intro m1 H1 st le T _ i
  have r1 := RpL.monoW le _ _ r
  refine ⟨fun d hd => ?_, fun hi => ⟨vs, SqT.monoW le hq, by rw [← r1.length]; exact Nat.le_of_eq hi⟩⟩
  obtain ⟨v, hv, rv⟩ := r1.get hd
  refine ⟨⟨vs, v, SqT.monoW le hq, hv⟩, fun x H2 y => ?_⟩
  obtain ⟨e, y⟩ := y
  subst e
  have q := y vs (SqT.monoW le hq)
  rw [hv] at q; cases q
  exact ⟨.refl, T, rv⟩
theorem jok_rol {K : PySem.W.Frag} {m : List Addr} {H : Hp} {a : Addr} {vs : List V} {xs : List D} (hq : RoL K H a vs) (r : RpL K m H xs vs) : JOk K (Itl K a) m H xs okAll := by
  intro m1 H1 st le T _ i
  have r1 := RpL.monoW le _ _ r
  have q1 := (RoL.monoW le hq).sq
  refine ⟨fun d hd => ?_, fun hi => ⟨vs, q1, by rw [← r1.length]; exact Nat.le_of_eq hi⟩⟩
  obtain ⟨v, hv, rv⟩ := r1.get hd
  refine ⟨⟨vs, v, q1, hv⟩, fun x H2 y => ?_⟩
  obtain ⟨e, y⟩ := y
  subst e
  have q := y vs q1
  rw [hv] at q; cases q
  exact ⟨.refl, T, rv⟩
theorem jok_lst {K : PySem.W.Frag} {m : List Addr} {H : Hp} {a : Addr} {l : Nat} {xs : List D} (hl : m[l]? = some a) : JOk K (Itl K a) m H xs (okLst l xs) := by
  intro m1 H1 st le T hok i
  unfold okLst at hok
  split at hok
  · rename_i ys hc
    have e := D.sameL_eq _ _ hok
    subst e
    obtain ⟨a', vs, e, hl2, hv, r⟩ := T.list hc (.loc (le.pre _ _ hl))
    cases e
    refine ⟨fun d hd => ?_, fun hi => ⟨vs, SqL.of hv, by rw [← r.length]; exact Nat.le_of_eq hi⟩⟩
    obtain ⟨v, hv2, rv⟩ := r.get hd
    refine ⟨⟨vs, v, SqL.of hv, hv2⟩, fun x H2 y => ?_⟩
    obtain ⟨e, y⟩ := y
    subst e
    have q := y vs (SqL.of hv)
    rw [hv2] at q; cases q
    exact ⟨.refl, T, rv⟩
  · cases hok
theorem jok_str {K : PySem.W.Frag} {m : List Addr} {H : Hp} {z : Str} : JOk K (Its z) m H (z.cps.toList.map fun c => .str ⟨#[c]⟩) okAll := by
  intro m1 H1 st le T _ i
  refine ⟨fun d hd => ?_, fun hi => by show z.cps.size ≤ i; simpa using Nat.le_of_eq hi⟩
  rw [List.getElem?_map] at hd
  cases e : z.cps.toList[i]? with
  | none => rw [e] at hd; cases hd
  | some c =>
    rw [e] at hd
    cases hd
    have hi : i < z.cps.size := by
      have := (List.getElem?_eq_some_iff.mp e).1
      simpa using this
    refine ⟨hi, fun x H2 y => ?_⟩
    obtain ⟨e2, c2, h1, h2⟩ := y
    subst e2
    subst h2
    have : c2 = c := by
      rw [Array.getElem?_toList] at e
      rw [h1] at e; exact Option.some.inj e
    subst this
    exact ⟨.refl, T, .str _⟩
theorem fi_seq {X : Cx} {tg e : Expr} {f : Fx} (h : FE X e f) : FI X tg e (iSeq f) := by
  obtain ⟨t, p, sd⟩ := h
  refine ⟨_, PI.or (pi_list p) (PI.or (pi_tup p) (pi_str p)), fun m H st r σ R ds ok st' T E hf post => ?_⟩
  obtain ⟨d, s1, h1, hf⟩ := bnd_some hf
  cases d with
  | tup xs =>
    cases hf
    refine .inr (.inl (sd m H st r σ _ _ _ T E h1 fun m1 H1 v l1 T1 rv => ?_))
    cases rv with
    | tup hq rr => exact ⟨_, rfl, ⟨_, SqT.of hq⟩, post m1 H1 _ l1 T1 (jok_tup' (SqT.of hq) rr)⟩
  | ptp xs =>
    cases hf
    refine .inr (.inl (sd m H st r σ _ _ _ T E h1 fun m1 H1 v l1 T1 rv => ?_))
    cases rv with
    | ptp hq rr => exact ⟨_, rfl, ⟨_, hq.sq⟩, post m1 H1 _ l1 T1 (jok_tup' hq.sq rr)⟩
  | rol xs =>
    cases hf
    refine .inl (sd m H st r σ _ _ _ T E h1 fun m1 H1 v l1 T1 rv => ?_)
    cases rv with
    | rol hq rr => exact ⟨_, rfl, ⟨_, hq.sq⟩, post m1 H1 _ l1 T1 (jok_rol hq rr)⟩
  | loc l =>
    simp only at hf
    split at hf
    · rename_i xs hc
      cases hf
      refine .inl (sd m H st r σ _ _ _ T E h1 fun m1 H1 v l1 T1 rv => ?_)
      obtain ⟨a, vs, e, hl, hv, rr⟩ := T1.list hc rv
      exact ⟨a, e, ⟨vs, SqL.of hv⟩, post m1 H1 _ l1 T1 (jok_lst hl)⟩
    · cases hf
  | str z =>
    cases hf
    refine .inr (.inr (sd m H st r σ _ _ _ T E h1 fun m1 H1 v l1 T1 rv => ?_))
    cases rv
    exact ⟨z, rfl, post m1 H1 _ l1 T1 jok_str⟩
  | _ => cases hf
/-- range(n), range(a, b) -/
def rngL (lo : Int) (n : Nat) : List D := (List.range n).map fun (k : Nat) => .int (lo + (k : Int))
theorem jok_rng {K : PySem.W.Frag} {m : List Addr} {H : Hp} {lo : Int} {n : Nat} : JOk K (Itr lo n) m H (rngL lo n) okAll := by
  intro m1 H1 st le T _ i
  refine ⟨fun d hd => ?_, fun hi => by show n ≤ i; simpa [rngL] using Nat.le_of_eq hi⟩
  unfold rngL at hd
  rw [List.getElem?_map] at hd
  cases e : (List.range n)[i]? with
  | none => rw [e] at hd; cases hd
  | some k =>
    rw [e] at hd
    cases hd
    have hi : i < n := by
      have := (List.getElem?_eq_some_iff.mp e).1
      simpa using this
    have hk : k = i := by
      rw [List.getElem?_range hi] at e; exact (Option.some.inj e).symm
    subst hk
    refine ⟨hi, fun x H2 y => ?_⟩
    obtain ⟨e2, h2⟩ := y
    subst e2 h2
    exact ⟨.refl, T, .int _⟩
def inRng (i : Int) : Bool := decide (-(2 ^ 62) ≤ i ∧ i < 2 ^ 62)
def iRange (f : Fa) : Fi := fun r => bnd (f r) fun ds st => match ds with
  | [.int j] => if inRng j = true then some ((rngL 0 j.toNat, okAll), st) else none
  | _ => none
theorem fi_range1 {X : Cx} {tg a : Expr} {f : Fa} {p pos : Pos} (hg : Gl X "range") (hm : X.mg "range" = none) (ha : FA X [a] f) (hs : starEach [a] X.env = [(false, eval a X.env)] := by rfl) : FI X tg (.Call (.Name "range" p) [a] [] pos) (iRange f) := by
  obtain ⟨t, pa, sa⟩ := ha
  refine ⟨_, pi_range1 hg hm pa hs, fun m H st r σ R ds ok st' T E hf post => ?_⟩
  obtain ⟨es, s1, h1, hf⟩ := bnd_some hf
  match es, h1, hf with
  | [.int j], h1, hf =>
    simp only at hf
    split at hf
    · rename_i hj
      cases hf
      refine sa m H st r σ _ _ _ T E h1 fun m1 H1 vs l1 T1 rv => ?_
      obtain ⟨v, rfl, rq⟩ := rv.one
      cases rq
      have hj' := of_decide_eq_true hj
      exact ⟨j, rfl, hj'.1, hj'.2, post m1 H1 _ l1 T1 jok_rng⟩
    · cases hf
/-- zip of two tuples or two lists, the target a pair of names -/
def pairs (xs ys : List D) : List D := (xs.zip ys).map fun p => .tup [p.1, p.2]
theorem pairs_get {xs ys : List D} {i : Nat} {d : D} (h : (pairs xs ys)[i]? = some d) : ∃ x y, xs[i]? = some x ∧ ys[i]? = some y ∧ d = .tup [x, y] := by
  unfold pairs at h
  rw [List.getElem?_map] at h
  cases e : (xs.zip ys)[i]? with
  | none => rw [e] at h; cases h
  | some p =>
    rw [e] at h; cases h
    obtain ⟨h1, h2⟩ := List.getElem?_zip_eq_some.mp e
    exact ⟨p.1, p.2, h1, h2, rfl⟩
theorem pairs_len (xs ys : List D) : (pairs xs ys).length = min xs.length ys.length := by unfold pairs; rw [List.length_map, List.length_zip]
theorem jok_zipT {K : PySem.W.Frag} {m : List Addr} {H : Hp} {a b : Addr} {vs ws : List V} {xs ys : List D} (hq : SqT K H a vs) (r : RpL K m H xs vs) (hq2 : SqT K H b ws) (r2 : RpL K m H ys ws) : JOk K (ItzT K a b) m H (pairs xs ys) okAll := by
  intro m1 H1 st le T _ i
  have r1 := RpL.monoW le _ _ r
  have r3 := RpL.monoW le _ _ r2
  refine ⟨fun d hd => ?_, fun hi => ⟨vs, ws, SqT.monoW le hq, SqT.monoW le hq2, ?_⟩⟩
  · obtain ⟨x, y, hx, hy, rfl⟩ := pairs_get hd
    obtain ⟨v, hv, rv⟩ := r1.get hx
    obtain ⟨w, hw, rw'⟩ := r3.get hy
    refine ⟨⟨vs, ws, v, w, SqT.monoW le hq, SqT.monoW le hq2, hv, hw⟩, fun z H2 yl => ?_⟩
    obtain ⟨Tp, v', w', rfl, nT, rfl, f1, f2⟩ := yl
    have e1 := f1 vs (SqT.monoW le hq)
    have e2 := f2 ws (SqT.monoW le hq2)
    rw [hv] at e1; cases e1
    rw [hw] at e2; cases e2
    exact ⟨Le.new nT, T.new nT, .tup upd_same (.cons (Rp.mono (Le.new nT) _ _ rv) (.cons (Rp.mono (Le.new nT) _ _ rw') .nil))⟩
  · rw [pairs_len] at hi
    rw [← r1.length, ← r3.length]
    omega
theorem okLst_some {l : Nat} {xs : List D} {st : Sto} (h : okLst l xs st = true) : st[l]? = some (.lst xs) := by
  unfold okLst at h
  split at h
  · rename_i ys hc
    rw [hc, D.sameL_eq _ _ h]
  · cases h
def okTwo (l : Nat) (xs : List D) (k : Nat) (ys : List D) : Sto → Bool := fun st => okLst l xs st && okLst k ys st
theorem jok_zipL {K : PySem.W.Frag} {m : List Addr} {H : Hp} {a b : Addr} {l k : Nat} {xs ys : List D} (hl : m[l]? = some a) (hk : m[k]? = some b) : JOk K (Itz K a b) m H (pairs xs ys) (okTwo l xs k ys) := by
  intro m1 H1 st le T hok i
  unfold okTwo at hok
  rw [Bool.and_eq_true] at hok
  have hc := okLst_some hok.1
  have hc2 := okLst_some hok.2
  obtain ⟨a', vs, e, _, hv, r1⟩ := T.list hc (.loc (le.pre _ _ hl))
  cases e
  obtain ⟨b', ws, e, _, hw, r3⟩ := T.list hc2 (.loc (le.pre _ _ hk))
  cases e
  refine ⟨fun d hd => ?_, fun hi => ⟨vs, ws, SqL.of hv, SqL.of hw, ?_⟩⟩
  · obtain ⟨x, y, hx, hy, rfl⟩ := pairs_get hd
    obtain ⟨v, hv2, rv⟩ := r1.get hx
    obtain ⟨w, hw2, rw'⟩ := r3.get hy
    refine ⟨⟨vs, ws, v, w, SqL.of hv, SqL.of hw, hv2, hw2⟩, fun z H2 yl => ?_⟩
    obtain ⟨Tp, v', w', rfl, nT, rfl, f1, f2⟩ := yl
    have e1 := f1 vs (SqL.of hv)
    have e2 := f2 ws (SqL.of hw)
    rw [hv2] at e1; cases e1
    rw [hw2] at e2; cases e2
    exact ⟨Le.new nT, T.new nT, .tup upd_same (.cons (Rp.mono (Le.new nT) _ _ rv) (.cons (Rp.mono (Le.new nT) _ _ rw') .nil))⟩
  · rw [pairs_len] at hi
    rw [← r1.length, ← r3.length]
    omega
def iZip2 (f : Fa) : Fi := fun r => bnd (f r) fun ds st => match ds with
  | [.tup xs, .tup ys] => some ((pairs xs ys, okAll), st)
  | [.ptp xs, .tup ys] => some ((pairs xs ys, okAll), st)
  | [.tup xs, .ptp ys] => some ((pairs xs ys, okAll), st)
  | [.ptp xs, .ptp ys] => some ((pairs xs ys, okAll), st)
  | [.loc a, .loc b] => match st[a]?, st[b]? with
    | some (.lst xs), some (.lst ys) => some ((pairs xs ys, okTwo a xs b ys), st)
    | _, _ => none
  | _ => none
theorem fi_zip {X : Cx} {e e2 : Expr} {f : Fa} {p pos tpos : Pos} {elts : List Expr} {kk : Nat} (hg : Gl X "zip") (hm : X.mg "zip" = none) (ha : FA X [e, e2] f)
    (hs : starEach [e, e2] X.env = (false, eval e X.env) :: starEach [e2] X.env := by rfl) (hpl : (backTo pos (starEach [e2] X.env)).any (·.1) = false := by rfl) : FI X (.Tuple elts kk tpos) (.Call (.Name "zip" p) [e, e2] [] pos) (iZip2 f) := by
  obtain ⟨t, pa, sa⟩ := ha
  refine ⟨_, pi_zipA hg hm pa hs hpl, fun m H st r σ R ds ok st' T E hf post => ?_⟩
  obtain ⟨es, s1, h1, hf⟩ := bnd_some hf
  match es, h1, hf with
  | [.tup xs, .tup ys], h1, hf =>
    cases hf
    refine sa m H st r σ _ _ _ T E h1 fun m1 H1 vs l1 T1 rv => ?_
    obtain ⟨v, w, rfl, rv, rw'⟩ := rv.two
    cases rv with
    | tup hq rr =>
      cases rw' with
      | tup hq2 rr2 => exact ⟨_, _, _, _, rfl, .inr ⟨SqT.of hq, SqT.of hq2, post m1 H1 _ l1 T1 (jok_zipT (SqT.of hq) rr (SqT.of hq2) rr2)⟩⟩
  | [.ptp xs, .tup ys], h1, hf =>
    cases hf
    refine sa m H st r σ _ _ _ T E h1 fun m1 H1 vs l1 T1 rv => ?_
    obtain ⟨v, w, rfl, rv, rw'⟩ := rv.two
    cases rv with
    | ptp hq rr =>
      cases rw' with
      | tup hq2 rr2 => exact ⟨_, _, _, _, rfl, .inr ⟨hq.sq, SqT.of hq2, post m1 H1 _ l1 T1 (jok_zipT hq.sq rr (SqT.of hq2) rr2)⟩⟩
  | [.tup xs, .ptp ys], h1, hf =>
    cases hf
    refine sa m H st r σ _ _ _ T E h1 fun m1 H1 vs l1 T1 rv => ?_
    obtain ⟨v, w, rfl, rv, rw'⟩ := rv.two
    cases rv with
    | tup hq rr =>
      cases rw' with
      | ptp hq2 rr2 => exact ⟨_, _, _, _, rfl, .inr ⟨SqT.of hq, hq2.sq, post m1 H1 _ l1 T1 (jok_zipT (SqT.of hq) rr hq2.sq rr2)⟩⟩
  | [.ptp xs, .ptp ys], h1, hf =>
    cases hf
    refine sa m H st r σ _ _ _ T E h1 fun m1 H1 vs l1 T1 rv => ?_
    obtain ⟨v, w, rfl, rv, rw'⟩ := rv.two
    cases rv with
    | ptp hq rr =>
      cases rw' with
      | ptp hq2 rr2 => exact ⟨_, _, _, _, rfl, .inr ⟨hq.sq, hq2.sq, post m1 H1 _ l1 T1 (jok_zipT hq.sq rr hq2.sq rr2)⟩⟩
  | [.loc a, .loc b], h1, hf =>
    simp only at hf
    split at hf
    · rename_i xs ys hc hc2
      cases hf
      refine sa m H st r σ _ _ _ T E h1 fun m1 H1 vs l1 T1 rv => ?_
      obtain ⟨v, w, rfl, rv, rw'⟩ := rv.two
      obtain ⟨p1, ws, e1, hl, hv, _⟩ := T1.list hc rv
      obtain ⟨p2, ws2, e2, hl2, hv2, _⟩ := T1.list hc2 rw'
      subst e1 e2
      exact ⟨_, _, _, _, rfl, .inl ⟨SqL.of hv, SqL.of hv2, post m1 H1 _ l1 T1 (jok_zipL hl hl2)⟩⟩
    · cases hf

/-! ## sorted -/
/-- what is sorted: values with their data -/
def rSortD (K : PySem.W.Frag) : List V → Hp → VK → Prop := fun xs H Q => ∃ (a : Addr) (ps : List (V × PyData)), xs = [.ref a] ∧ SqL K H a (ps.map (·.1)) ∧ (∀ q, q ∈ ps → Dp K H q.1 q.2 ∧ q.2.depth ≤ 60) ∧ PySem.W.AllAlike (ps.map (·.2)) ∧ PySem.W.Sortable (ps.map (·.2)) ∧ ps.length ≤ sizeLine ∧
  ∀ p, H p = none → Q (.ref p) (upd H p (.lst ((ps.mergeSort (PySem.W.dataLe false (·.2))).map (·.1))))
theorem each_of {X : Cx} {pins : List (Addr × Obj)} {σ : L2.St} {H : Hp} {s : Shared} (I : Inv X pins σ H s) : ∀ {ps : List (V × PyData)} {us : List Value}, Vals (ps.map (·.1)) us → (∀ q, q ∈ ps → Dp X.K H q.1 q.2 ∧ q.2.depth ≤ 60) →
    PySem.W.EachIs (fun u (q : V × PyData) => RelV q.1 u) us ps ∧ PySem.W.EachIs (fun u (q : V × PyData) => ∃ as, Reads s.heap u q.2 as) us ps
  | [], _, .nil, _ => ⟨.nil, .nil⟩
  | q :: ps, _, .cons r t, h => by
    obtain ⟨e1, e2⟩ := each_of I t fun x hx => h x (List.mem_cons_of_mem _ hx)
    exact ⟨.cons r e1, .cons (Dp.reads I q.2 q.1 _ (h q (List.mem_cons_self ..)).1 r) e2⟩
theorem vals_each : ∀ {us : List Value} {ps : List (V × PyData)}, PySem.W.EachIs (fun u (q : V × PyData) => RelV q.1 u) us ps → Vals (ps.map (·.1)) us
  | _, _, .nil => .nil
  | _, _, .cons r t => .cons r (vals_each t)
theorem call_sortD {X : Cx} {k : Nat} (hr : Room k X.A) : CallR X (.builtin "sorted") (rSortD X.K) := by
  intro pins s σ H vs us Q I r h
  obtain ⟨a, ps, rfl, hq, hd, hal, hso, hz, q⟩ := h
  obtain ⟨its, rv, hl, _⟩ := I.list hq
  rw [Vals.ref1 r]
  obtain ⟨e1, e2⟩ := each_of I rv hd
  refine PySem.W.sorted_data (enc := fun (q : V × PyData) => q.2) hl.isList e1 e2 hal hso hz (fun b hb => by have := hr.un; have := (hd b hb).2; omega) fun out hlen eo => ?_
  obtain ⟨ep, he'⟩ := PyProof.Rows.sortedAll_at s.heap its (List.toArray out)
  have vv := vals_each eo
  have hl2 : ((ps.mergeSort (PySem.W.dataLe false (·.2))).map (·.1)).length ≤ sizeLine := by rw [List.length_map, List.length_mergeSort]; exact hz
  exact ⟨.ref _, upd H (s.heap.objs.size + 1) (.lst ((ps.mergeSort (PySem.W.dataLe false (·.2))).map (·.1))), I.laid (t' := s.toks) (fun _ _ => PyProof.Rows.sortedAll_old) (Nat.le_succ _) ⟨hl2, out, ep, vv, he'⟩, rfl, q _ (I.hok.fresh (Nat.le_succ _))⟩
noncomputable def sortDs (st : Sto) (xs : List D) : Option (List D) := open Classical in
  match xs.mapM (toPy st 60) with
  | some ps => if PySem.W.AllAlike ps ∧ PySem.W.Sortable ps ∧ (∀ p, p ∈ ps → p.depth ≤ 60) ∧ xs.length ≤ sizeLine then some (((xs.zip ps).mergeSort (PySem.W.dataLe false (·.2))).map (·.1)) else none
  | none => none
noncomputable def gSorted : List D → M D := fun ds st => match ds with
  | [d] => match (lstOf st d).bind (sortDs st) with
    | some ys => some (.loc st.length, st ++ [.lst ys])
    | none => none
  | _ => none
theorem zip_rel {K : PySem.W.Frag} {m : List Addr} {H : Hp} {st : Sto} (T : Tie K m H st) : ∀ {xs : List D} {vs : List V} {ps : List PyData}, RpL K m H xs vs → xs.mapM (toPy st 60) = some ps →
    Paired (fun (p : D × PyData) (q : V × PyData) => p.2 = q.2 ∧ Rp K m H p.1 q.1 ∧ Dp K H q.1 q.2) (xs.zip ps) (vs.zip ps) ∧ (vs.zip ps).map (·.1) = vs ∧ (vs.zip ps).map (·.2) = ps ∧ ps.length = vs.length
  | [], _, ps, .nil, h => by
    have e : ps = [] := by simpa using h
    subst e; exact ⟨.nil, rfl, rfl, rfl⟩
  | x :: xs, _, ps, .cons r t, h => by
    obtain ⟨y, ys, h1, h2, rfl⟩ := mapM_cons h
    obtain ⟨q1, q2, q3, q4⟩ := zip_rel T t h2
    refine ⟨.cons ⟨rfl, r, dp_of T 60 x _ y r h1⟩ q1, ?_, ?_, ?_⟩
    · rw [List.zip_cons_cons, List.map_cons, q2]
    · rw [List.zip_cons_cons, List.map_cons, q3]
    · rw [List.length_cons, List.length_cons, q4]
theorem paired_mem {α β : Type} {R : α → β → Prop} {xs : List α} {ys : List β} (h : Paired R xs ys) : ∀ y, y ∈ ys → ∃ x, x ∈ xs ∧ R x y := by
  induction h with
  | nil => intro y hy; cases hy
  | cons r _ ih =>
    intro y hy
    rcases List.mem_cons.mp hy with e | e
    · subst e; exact ⟨_, List.mem_cons_self .., r⟩
    · obtain ⟨x, hx, q⟩ := ih y e; exact ⟨x, List.mem_cons_of_mem _ hx, q⟩
end Fe
namespace Fe
open PySem PySem.Spec PyProof.Rows L2 RZ
theorem paired_list {α β : Type} {R : α → β → Prop} {xs : List α} {ys : List β} (h : Paired R xs ys) : ∃ L : List (α × β), L.map (·.1) = xs ∧ L.map (·.2) = ys ∧ ∀ t, t ∈ L → R t.1 t.2 := by
  induction h with
  | nil => exact ⟨[], rfl, rfl, fun _ h => nomatch h⟩
  | @cons a b as bs r _ ih =>
    obtain ⟨L, h1, h2, h3⟩ := ih
    refine ⟨(a, b) :: L, by rw [List.map_cons, h1], by rw [List.map_cons, h2], fun t ht => ?_⟩
    rcases List.mem_cons.mp ht with e | e
    · subst e; exact r
    · exact h3 t e
theorem rpl_of {K : PySem.W.Frag} {m : List Addr} {H : Hp} {α : Type} {f : α → D} {g : α → V} : ∀ {L : List α}, (∀ t, t ∈ L → Rp K m H (f t) (g t)) → RpL K m H (L.map f) (L.map g)
  | [], _ => .nil
  | t :: L, h => .cons (h t (List.mem_cons_self ..)) (rpl_of fun x hx => h x (List.mem_cons_of_mem _ hx))
theorem sort_rel {K : PySem.W.Frag} {m : List Addr} {H : Hp} {as : List (D × PyData)} {bs : List (V × PyData)} (h : Paired (fun (p : D × PyData) (q : V × PyData) => p.2 = q.2 ∧ Rp K m H p.1 q.1 ∧ Dp K H q.1 q.2) as bs) :
    RpL K m H ((as.mergeSort (PySem.W.dataLe false (·.2))).map (·.1)) ((bs.mergeSort (PySem.W.dataLe false (·.2))).map (·.1)) := by
  obtain ⟨L, h1, h2, h3⟩ := paired_list h
  have e1 : (L.mergeSort (fun a b => PySem.W.dataLe false (fun (q : D × PyData) => q.2) a.1 b.1)).map (·.1) = as.mergeSort (PySem.W.dataLe false (·.2)) := by
    rw [← h1]; exact List.map_mergeSort fun _ _ _ _ => rfl
  have e2 : (L.mergeSort (fun a b => PySem.W.dataLe false (fun (q : D × PyData) => q.2) a.1 b.1)).map (·.2) = bs.mergeSort (PySem.W.dataLe false (·.2)) := by
    rw [← h2]
    refine List.map_mergeSort fun a ha b hb => ?_
    have q1 := (h3 a ha).1
    have q2 := (h3 b hb).1
    show PySem.W.dataLe false (fun (p : PyData) => p) a.1.2 b.1.2 = PySem.W.dataLe false (fun (p : PyData) => p) a.2.2 b.2.2
    rw [q1, q2]
  rw [← e1, ← e2, List.map_map, List.map_map]
  exact rpl_of fun t ht => (h3 t (List.mem_mergeSort.mp ht)).2.1
theorem sr_sorted {K : PySem.W.Frag} : SRs K (rSortD K) gSorted := by
  intro m H st vs ds Q d st' T r h post
  match ds, r with
  | [e], .cons re .nil =>
    simp only [gSorted] at h
    cases hs : lstOf st e with
    | none => rw [hs] at h; cases h
    | some xs =>
      rw [hs] at h
      simp only [Option.bind_some] at h
      cases hy : sortDs st xs with
      | none => rw [hy] at h; cases h
      | some ys =>
        rw [hy] at h
        cases h
        obtain ⟨p, ws, e1, r1, q⟩ := lst_sq T re hs
        subst e1
        unfold sortDs at hy
        split at hy
        · rename_i ps hps
          split at hy
          · rename_i hc
            cases hy
            obtain ⟨z1, z2, z3, z4⟩ := zip_rel T r1 hps
            refine ⟨p, ws.zip ps, rfl, by rw [z2]; exact q, fun q' hq' => ?_, by rw [z3]; exact hc.1, by rw [z3]; exact hc.2.1, ?_, fun l hl => post_lst T (sort_rel z1) post hl⟩
            · obtain ⟨x, _, h1⟩ := paired_mem z1 q' hq'
              refine ⟨h1.2.2, hc.2.2.1 _ ?_⟩
              rw [← z3]; exact List.mem_map.mpr ⟨q', hq', rfl⟩
            · rw [List.length_zip, z4, Nat.min_self, ← r1.length]; exact hc.2.2.2
          · cases hy
        · cases hy

/-! ## a chain of two comparisons -/
section
variable {X : Cx} {a b c : Expr} {fa fb fc : Fx} {pos : Pos} {op op' : CmpOp} {r r' : R2} {g g' : D → D → M D}
theorem snd_chain {K : PySem.W.Frag} {ta tb tc : TE} (ha : Snd K ta fa) (hb : Snd K tb fb) (hc : Snd K tc fc) (hs : SR2 K r g) (hs' : SR2 K r' g') :
    Snd K (fun σ H Q => ta σ H fun x H1 => tb σ H1 fun y H2 => r x y H2 fun z H3 => ∃ k, z = .bl k ∧ (if k = true then tc σ H3 fun u H4 => r' y u H4 Q else Q (.bl false) H3)) (eChain g g' fa fb fc) := by
  intro m H st ρ σ Q d st' T E h post
  obtain ⟨x, s1, h1, h⟩ := bnd_some h
  obtain ⟨y, s2, h2, h⟩ := bnd_some h
  obtain ⟨z, s3, h3, h⟩ := bnd_some h
  refine ha m H st ρ σ _ x s1 T E h1 fun m1 H1 v l1 T1 r1 => ?_
  refine hb m1 H1 s1 ρ σ _ y s2 T1 (E.mono l1) h2 fun m2 H2 w l2 T2 r2 => ?_
  refine hs m2 H2 s2 v w x y _ z s3 T2 (Rp.mono l2 _ _ r1) r2 h3 fun m3 H3 u l3 T3 r3 => ?_
  cases z with
  | bl k =>
    cases r3
    cases k with
    | false => cases h; exact ⟨false, rfl, iteF (post m3 H3 _ (l1.trans (l2.trans l3)) T3 (.bl false))⟩
    | true =>
      obtain ⟨q, s4, h4, h⟩ := bnd_some h
      refine ⟨true, rfl, iteT (hc m3 H3 s3 ρ σ _ q s4 T3 (E.mono (l1.trans (l2.trans l3))) h4 fun m4 H4 u l4 T4 r4 => ?_)⟩
      exact hs' m4 H4 s4 w u y q Q d st' T4 (Rp.mono (l3.trans l4) _ _ r2) r4 h (Pst.le (l1.trans (l2.trans (l3.trans l4))) post)
  | _ => cases h
theorem fe_chain (ho : OpR X (compareOp op) r) (ho' : OpR X (compareOp op') r') (hs : SR2 X.K r g) (hs' : SR2 X.K r' g') (ha : FE X a fa) (hb : FE X b fb) (hc : FE X c fc) (h1 : lastMarks [op, op'] [b, c] = false := by rfl) :
    FE X (.Compare a [op, op'] [b, c] pos) (eChain g g' fa fb fc) := by
  obtain ⟨ta, pa, sa⟩ := ha
  obtain ⟨tb, pb, sb⟩ := hb
  obtain ⟨tc, pc, sc⟩ := hc
  exact ⟨_, pe_chain ho ho' pa pb pc h1, snd_chain sa sb sc hs hs'⟩
theorem ft_chain (ho : OpR X (compareOp op) r) (ho' : OpR X (compareOp op') r') (hs : SR2 X.K r g) (hs' : SR2 X.K r' g') (ha : FE X a fa) (hb : FE X b fb) (hc : FE X c fc) (h1 : lastMarks [op, op'] [b, c] = false := by rfl) :
    FT X (.Compare a [op, op'] [b, c] pos) (asB (eChain g g' fa fb fc)) := by
  obtain ⟨ta, pa, sa⟩ := ha
  obtain ⟨tb, pb, sb⟩ := hb
  obtain ⟨tc, pc, sc⟩ := hc
  refine ⟨_, pt_chain ho ho' pa pb pc h1, ?_⟩
  have h := sndT_of (snd_chain sa sb sc hs hs')
  exact h
end
/-! ## {..} of one pair, {} -/
theorem Tie.adoptC {K : PySem.W.Frag} {m m1 : List Addr} {H H1 : Hp} {st : Sto} (T : Tie K m H st) {a : Addr} {o : HO} {c : Cell} (ha : a ∉ m) (hu : H a = some o) (mu : isMut o = true) (hc : ∀ m', (∀ (l : Nat) (b : Addr), m[l]? = some b → m'[l]? = some b) → CellAt K m' H a c) (le : Le m1 H1 m H) (hn : H1 a = none) :
    Tie K (m ++ [a]) H (st ++ [c]) ∧ Le m1 H1 (m ++ [a]) H := by
  have pre : ∀ (l : Nat) (b : Addr), m[l]? = some b → (m ++ [a])[l]? = some b := fun l b h => by rw [List.getElem?_append_left (List.getElem?_eq_some_iff.mp h).1]; exact h
  have leM : Le m H (m ++ [a]) H → True := fun _ => trivial
  have mono : ∀ (d : D) (v : V), Rp K m H d v → Rp K (m ++ [a]) H d v := fun d v r => by
    induction r using Rp.rec (motive_2 := fun ds vs _ => RpL K (m ++ [a]) H ds vs) with
    | non => exact .non
    | bl b => exact .bl b
    | int b => exact .int b
    | str b => exact .str b
    | tup h r ih => exact .tup h ih
    | ptp h r ih => exact .ptp h ih
    | exc h r ih => exact .exc h ih
    | rol h r ih => exact .rol h ih
    | loc h => exact .loc (pre _ _ h)
    | ty n => exact .ty n
    | nil => exact .nil
    | cons _ _ i1 i2 => exact .cons i1 i2
  have monoL : ∀ (ds : List D) (vs : List V), RpL K m H ds vs → RpL K (m ++ [a]) H ds vs := fun ds => by
    induction ds with
    | nil => intro vs r; cases r; exact .nil
    | cons d ds ih => intro vs r; cases r with | cons r t => exact .cons (mono _ _ r) (ih _ t)
  refine ⟨⟨by rw [List.length_append, List.length_append, T.len]; rfl, ?_, fun l b c' h1 h2 => ?_⟩, ⟨fun l b h => pre l b (le.pre l b h), le.tup, le.frz, le.oth, fun b hb n => ?_⟩⟩
  · rw [List.nodup_append]
    refine ⟨T.nd, by simp, fun x hx b hb => ?_⟩
    have e : b = a := by simpa using hb
    subst e
    exact fun z => ha (by rw [← z]; exact hx)
  · by_cases hl : l < m.length
    · rw [List.getElem?_append_left hl] at h1
      rw [List.getElem?_append_left (by rw [← T.len]; exact hl)] at h2
      have q := T.at_ l b c' h1 h2
      cases c' with
      | lst xs => obtain ⟨ws, e, r⟩ := q; exact ⟨ws, e, monoL _ _ r⟩
      | dct xs =>
        obtain ⟨ws, e, r⟩ := q
        refine ⟨ws, e, ?_⟩
        clear e h1 h2
        induction r with
        | nil => exact .nil
        | cons p _ ih => exact .cons ⟨p.1, mono _ _ p.2⟩ ih
      | dtt xs =>
        obtain ⟨ws, e, r⟩ := q
        refine ⟨ws, e, ?_⟩
        clear e h1 h2
        induction r with
        | nil => exact .nil
        | cons p _ ih => exact .cons ⟨p.1, mono _ _ p.2⟩ ih
    · have hl2 : m.length ≤ l := by omega
      rw [List.getElem?_append_right hl2] at h1
      rw [List.getElem?_append_right (by rw [← T.len]; exact hl2)] at h2
      have z : l - m.length = 0 := by
        cases e : l - m.length with
        | zero => rfl
        | succ k => rw [e] at h1; simp at h1
      rw [z] at h1
      rw [← T.len, z] at h2
      simp at h1 h2
      subst h1; subst h2
      exact hc _ pre
  · rcases List.mem_append.mp hb with z | z
    · exact le.fresh b z n
    · have e : b = a := by simpa using z
      rw [e]; exact hn
def eDict0 : Fx := fun _ st => some (.loc st.length, st ++ [.dct []])
def eDict0T : Fx := fun _ st => some (.loc st.length, st ++ [.dtt []])
theorem fe_dict0 {X : Cx} {pos : Pos} : FE X (.Dict [] [] pos) eDict0 := by
  refine ⟨_, pe_dnewK, fun m H st r σ Q d st' T E h post => ?_⟩
  cases h
  intro p hp
  obtain ⟨T', le⟩ := T.cell (c := .dct []) (o := .dK []) hp fun m' H' le e => ⟨[], e, .nil⟩
  exact post _ _ _ le T' (.loc (by rw [← T.len]; simp))
theorem fe_dict0T {X : Cx} {pos : Pos} : FE X (.Dict [] [] pos) eDict0T := by
  refine ⟨_, pe_dnewT, fun m H st r σ Q d st' T E h post => ?_⟩
  cases h
  intro p hp
  obtain ⟨T', le⟩ := T.cell (c := .dtt []) (o := .dT []) hp fun m' H' le e => ⟨[], e, .nil⟩
  exact post _ _ _ le T' (.loc (by rw [← T.len]; simp))
/-- {"k": e}, e a written value -/
def eDict1 (k : Str) (d : D) : Fx := fun _ st => some (.loc st.length, st ++ [.dct [(.inr k, d)]])
theorem fe_dict1 {X : Cx} {k : Str} {j : Nat} {p1 pos : Pos} {e : Expr} {v : V} {d : D} (h : PE X e (tC v)) (hd : ∀ m H, Rp X.K m H d v) : FE X (.Dict [some (.Constant (.str k) j p1)] [e] pos) (eDict1 k d) := by
  refine ⟨_, pe_disp (pps_cons pe_str h pps_nil) (by rfl) (by rfl) (fun z => by cases z) (by show 1 ≤ 15; decide), fun m H st r σ Q q st' T E hf post => ?_⟩
  cases hf
  intro p hp
  refine ⟨upd_same, [(.inr k, v)], rfl, by show 1 ≤ 15; decide, ?_⟩
  rw [upd_upd]
  obtain ⟨T', le⟩ := T.cell (c := .dct [(.inr k, d)]) (o := .dK (mergeK [] [(.inr k, v)])) hp fun m' H' le e => ⟨[(.inr k, v)], e, .cons ⟨rfl, hd _ _⟩ .nil⟩
  exact post _ _ _ le T' (.loc (by rw [← T.len]; simp))
end Fe
namespace Fe
open PySem PySem.Spec PyProof.Rows L2

/-! ## defs told by name -/
def Defd (K : PySem.W.Frag) (mg : Str → Option Value) (x : Str) (st : Stmt) (ps : List Str) : Prop := ∃ (f : Addr) (fd : FuncData), Fun K x x st f fd ∧ Binds K fd ps [] ∧ mg x = some (.ref f)
def Kept (P : Program) (w : World) (K : PySem.W.Frag) (mg : Str → Option Value) (base : Heap) (k : Nat) (x : Str) (ps : List Str) (mf : Fd) : Prop :=
  ∃ (f : Addr) (fd : FuncData), Binds K fd ps [] ∧ mg x = some (.ref f) ∧ PySem.W.keepIn K (.ref f) = true ∧ FnG P w K mg base k f fd ps (spD K ps.length mf)
section
variable {P : Program} {w : World} {K : PySem.W.Frag} {mg : Str → Option Value} {base : Heap}
theorem Kept.mono {j k : Nat} {x : Str} {ps : List Str} {mf : Fd} (h : Kept P w K mg base j x ps mf) (le : j ≤ k) : Kept P w K mg base k x ps mf := by
  obtain ⟨f, fd, b, g, kp, F⟩ := h
  exact ⟨f, fd, b, g, kp, F.mono le⟩
theorem kept_ok {x : Str} {st : Stmt} {N ps : List Str} {k nn : Nat} {g : Fs} (Df : Defd K mg x st ps) (S : FnScope N ps (defScope st)) (hnn : N.length = nn)
    (hbody : ∀ (f : Addr) (cdv : Value) (A : Around) (outer : List Env) (s : Shared) (H : Hp), A.guards = some [] → Room k (A.deeper (envOfC x (defScope st) s.heap.objs.size f cdv)) → FSs (cxOf CX0 P w K mg base N x (defScope st) f cdv A outer s H E0).nox (defBody st) g) :
    Kept P w K mg base (k + 1) x ps (runB nn g) := by
  obtain ⟨f, fd, F, b, gx⟩ := Df
  exact ⟨f, fd, b, gx, F.kp, fn_ok F S rfl hnn fun cdv A outer s H hg hr => hbody f cdv A outer s H hg hr⟩
end
theorem fe_callK {X : Cx} {k : Nat} {ps : List Str} {x : Str} {p pos : Pos} {e : Expr} {es : List Expr} {mf : Fd} {fa : Fa} (h : Kept X.prog X.w X.K X.mg X.base k x ps mf) (hgd : X.A.guards = some []) (hr : Room k X.A) (ha : FA X (e :: es) fa)
    (hn : ∀ (r : DEnv) (st st' : Sto) (ds : List D), fa r st = some (ds, st') → ds.length = ps.length) (hg : Gl X x := by rfl) (hdb : (x == ("__debug__" : Str)) = false := by decide)
    (he : starEach (e :: es) X.env = (false, eval e X.env) :: starEach es X.env := by rfl) (hpl : (backTo pos (starEach es X.env)).any (·.1) = false := by rfl) : FE X (.Call (.Name x p) (e :: es) [] pos) (eCall mf fa) := by
  obtain ⟨f, fd, b, gx, kp, F⟩ := h
  exact fe_call F hgd hr hg gx kp b ha hn hdb he hpl
theorem fv {X : Cx} {pos : Pos} (i : Nat) {x : Str} (hN : X.N[i]? = some x := by rfl) (hv : Vis X.env.scope x := by first | exact Or.inl rfl | exact Or.inr (Or.inl rfl) | exact Or.inr (Or.inr rfl)) (hd : (x == ("__debug__" : Str)) = false := by decide) (hcd : (x == ("__classdict__" : Str)) = false := by decide) : FE X (.Name x pos) (eVar i) := fe_var hN hv hd hcd
theorem gv {X : Cx} {pos : Pos} (i : Nat) {x : Str} (hN : X.N.Nodup) (hi : X.N[i]? = some x := by rfl) (hx : Loc X.env.scope x := by first | exact Or.inl rfl | exact Or.inr rfl) (hf : X.fn x = true ∨ X.env.scope.names.lookup x = some .local := by first | exact .inl rfl | exact .inr rfl) : FG X (.Name x pos) [i] (gtName i) := fg_name hN hi hx hf

/-! ## the end of a row: the law's promise is kept where it is called -/
/-- what the law is to give: for each script True -/
def Wins (mf : Fd) : Prop := ∀ ns : List Int, ns.length ≤ 63 → (∀ z, z ∈ ns → Builtin.Int.intBits z ≤ 1048576) → ∃ st', mf [.rol (ns.map .int)] [] = some (.bl true, st')
theorem rpl_ints {K : PySem.W.Frag} {m : List Addr} {H : Hp} : ∀ ns : List Int, RpL K m H (ns.map .int) (ns.map V.int)
  | [] => .nil
  | n :: ns => .cons (.int n) (rpl_ints ns)
theorem law_runs {P : Program} {w : World} {K : PySem.W.Frag} {mg mb : Str → Option Value} {k : Nat} {fa a : Addr} {fd : FuncData} {x : Str} {mf : Fd} {s1 : Shared} {us : List Value} {ns : List Int}
    (kin : K.In s1.heap) (hglob : s1.heap.Ns mainGlobals mg) (hblt : s1.heap.Ns builtinsNs mb) (hboot : ∀ y : Str, y ≠ "__name__" → mb y = bootBuiltins y) (hnl : s1.heap.NoLimit) (hsys : ∃ m, s1.heap.Ns sysModules m) (hgens : s1.gens = #[])
    (hobj : s1.heap.get? a = some { cls := .type "list", data := .seq us.toArray }) (hints : IntsAre us ns) (hlen : ns.length ≤ 63) (hbits : ∀ z, z ∈ ns → Builtin.Int.intBits z ≤ 1048576) (room : Room k callerA)
    (F : ∀ base : Heap, K.In base → base.Ns mainGlobals mg → SysAt base → FnG P w K mg base k fa fd [x] (spD K 1 mf)) (hbind : ∀ (s : Shared) (u : Value), BindsTo s fd ⟨[u], []⟩ [(x, u)]) (win : Wins mf) :
    codeAny (model P w) callerA (.call (.ref fa) ⟨[.ref a], []⟩) (fun r s' => r = .ok (.ret (.bool true)) ∧ OldK s1.heap s'.heap ∧ s'.os = s1.os ∧ AllBare s'.gens) s1 := by
  have hv := vals_ints hints
  have hl2 := hints.length
  have hsz : ns.length ≤ sizeLine := Nat.le_trans hlen (by decide)
  obtain ⟨stE, hwin⟩ := win ns hlen hbits
  -- an abstract heap that tracks at most the script, locked
  have main : ∀ H : Hp, (∀ b, H b = none ∨ (b = a ∧ ∃ o xs, H b = some (.frz o (.lst xs)))) → RoL K H a (ns.map V.int) → HOk P w H s1.heap → (H a ≠ none → K.lookup a = none) →
      codeAny (model P w) callerA (.call (.ref fa) ⟨[.ref a], []⟩) (fun r s' => r = .ok (.ret (.bool true)) ∧ OldK s1.heap s'.heap ∧ s'.os = s1.os ∧ AllBare s'.gens) s1 := by
    intro H hO hS hok hK
    have only : ∀ b, H b ≠ none → b = a := fun b n => (hO b).elim (fun z => absurd z n) fun z => z.1
    have low : ∀ {b : Addr} {o : Obj}, s1.heap.get? b = some o → H b = none → (hidT s1.heap H).get? b = some o := fun e n => hidT_get e n
    have notDict : ∀ {b : Addr} {o : Obj} {es : Array DictEntry} {ep : Nat}, s1.heap.get? b = some o → o.data = .dict es ep → H b = none := by
      intro b o es ep e d
      cases q : H b with
      | none => rfl
      | some u =>
        have hb : b = a := only b (by rw [q]; simp)
        rw [hb, hobj] at e
        cases e
        exact nomatch (show Data.seq us.toArray _ = Data.dict es ep from d)
    have ns_low : ∀ {b : Addr} {f : Str → Option Value}, s1.heap.Ns b f → (hidT s1.heap H).Ns b f := fun ⟨o, es, ep, e, d, r⟩ => ⟨o, es, ep, low e (notDict e d), d, r⟩
    have kin_low : K.In (hidT s1.heap H) := by
      intro b o e
      refine low (kin b o e) ?_
      cases q : H b with
      | none => rfl
      | some u =>
        have hb : b = a := only b (by rw [q]; simp)
        subst hb
        rw [hK (by rw [q]; simp)] at e
        cases e
    have md : Mod K mg (hidT s1.heap H) := ⟨kin_low, ns_low hglob, ⟨mb, ns_low hblt, hboot⟩, let ⟨f, h1, h2⟩ := hnl; ⟨f, ns_low h1, h2⟩⟩
    have env : Env0 P w K mg (hidT s1.heap H) callerA [] s1 H := ⟨rfl, md, fun b o e => of_hidT e, Nat.le_of_eq (hidT_size _ _), trivial, (fun b hb => absurd (show b ∈ ([] : List Addr) from hb) (by simp)), hok, .of_eq hgens⟩
    have T0 : Tie K [] H [] := ⟨rfl, .nil, fun l b c h => by simp at h⟩
    have want : spD K 1 mf [.ref a] H (fun v _ => v = .bl true) E0 := by
      refine ⟨rfl, [], [], [.rol (ns.map .int)], .bl true, stE, T0, .cons (.rol hS (rpl_ints ns)) .nil, hwin, fun m' H' v _ _ rv => ?_⟩
      cases rv; rfl
    refine codeAny_mono ((F _ kin_low (ns_low hglob) (let ⟨m, h⟩ := hsys; ⟨m, ns_low h⟩)).run callerA [] s1 H ⟨[.ref a], []⟩ [.ref a] [.ref a] (fun v _ => v = .bl true) rfl room env (hbind s1 (.ref a)) (.cons rfl .nil) want) fun r s' h => ?_
    cases r with
    | error e => exact h.elim
    | ok fl =>
      cases fl with
      | next => exact h.elim
      | brk => exact h.elim
      | cont => exact h.elim
      | ret u =>
        obtain ⟨v, H', hos, hbare, un, hok', rv, hq⟩ := h
        have hq' : v = .bl true := hq
        subst hq'
        cases (show u = Value.bool true from rv)
        refine ⟨rfl, OldK.of_keep fun b o e => ?_, hos, hbare⟩
        rcases hO b with z | ⟨_, ob, xs, z⟩
        · exact un.keep b o e z (fun y => absurd (show b ∈ ([] : List Addr) from y) (by simp)) (by simp)
        · obtain ⟨e1, _⟩ := hok b _ z
          obtain ⟨e2, _⟩ := hok' b _ (un.frzs b ob _ z)
          rw [e] at e1
          cases e1
          exact e2
  cases hk : K.lookup a with
  | some o =>
    have e := kin a o hk
    rw [hobj] at e
    cases e
    refine main (fun _ => none) (fun _ => .inl rfl) (.inr fun H' => .inr ⟨_, us.toArray, _, hk, rfl, rfl, rfl, by rw [List.size_toArray, hl2]; exact hsz, by simpa using hv⟩) (fun b u z => nomatch (show (none : Option HO) = some u from z)) fun z => absurd rfl z
  | none =>
    let H : Hp := fun b => if b = a then some (.frz { cls := .type "list", data := .seq us.toArray } (.lst (ns.map V.int))) else none
    have Ha : H a = some (.frz { cls := .type "list", data := .seq us.toArray } (.lst (ns.map V.int))) := if_pos rfl
    have Hb : ∀ b, b ≠ a → H b = none := fun b n => if_neg n
    refine main H (fun b => ?_) (.inl ⟨_, Ha⟩) (fun b u z => ?_) fun _ => hk
    · by_cases hb : b = a
      · exact .inr ⟨hb, _, _, by rw [hb]; exact Ha⟩
      · exact .inl (Hb b hb)
    · by_cases hb : b = a
      · subst hb
        rw [Ha] at z
        cases z
        exact ⟨hobj, by rw [List.length_map]; exact hsz, us, _, hv, hobj⟩
      · rw [Hb b hb] at z; cases z
/-- the goal that k_head leaves, from the law's own function and what it gives -/
theorem walk_g {l : PySem.W.OpenLaw} {k : Nat} {q : Program} {loose : List Str} {XP : (Str → Option Value) → Heap → Prop} {YP : World → Heap → Prop} {d : DefRec} {K : Params → PySem.W.Frag} {x : Str} {mf : Fd}
    (hn : l.most = some 63) (hdf : d.params.defaults = []) (room : Room k callerA) (hY : ∀ (w : World) (h : Heap), YP w h → (K w.params).In h)
    (F : ∀ (w : World) (mg : Str → Option Value) (fa : Addr) (h : Heap), (K w.params).In h → h.Ns mainGlobals mg → mg d.name = some (.ref fa) →
      ∃ fd : FuncData, (∀ (s : Shared) (u : Value), BindsTo s fd ⟨[u], []⟩ [(x, u)]) ∧ ∀ base : Heap, (K w.params).In base → base.Ns mainGlobals mg → SysAt base → FnG l.prog w (K w.params) mg base k fa fd [x] (spD (K w.params) 1 mf))
    (win : Wins mf) (hi : importsNone q = true) : PySem.W.WalkO q loose XP YP l.row.toRowW d [] (fun f vs => PySem.call f vs) := by
  refine Att.attach_callB hn hdf fun w s0 s1 mg mb fa o pm cd doc a us ns G Y ho hd hcd hmg hobj hints hlen hbits hgens => ?_
  have kin := hY w _ Y
  obtain ⟨fd, hb, hF⟩ := F w mg fa _ kin G.T.g hmg
  exact law_runs kin G.T.g G.T.b G.T.builtins G.T.nolimit (let ⟨m, h, _⟩ := (G.T.seer hi).mods; ⟨m, h⟩) hgens hobj hints hlen hbits room hF hb win
end Fe
namespace Fe
open PySem PySem.Spec PyProof.Rows L2 RZ

def or2 (g g' : D → D → M D) : D → D → M D := fun x y st => match g x y st with
  | some q => some q
  | none => g' x y st
/-- lists of unlike length -/
def rLen (K : PySem.W.Frag) (neg : Bool) : R2 := fun x y H Q => ∃ p q xs ys, x = .ref p ∧ y = .ref q ∧ SqL K H p xs ∧ SqL K H q ys ∧ xs.length ≠ ys.length ∧ Q (.bl neg) H
theorem op_eqLen {X : Cx} (hu : X.A.units + 1 < cLine) : OpR X (compareOp .Eq) (rLen X.K false) := by
  intro pins s σ H x y v u Q I rx ry h
  obtain ⟨p, q, xs, ys, rfl, rfl, h1, h2, hne, hq⟩ := h
  cases rx
  cases ry
  obtain ⟨its, r1, l1, _⟩ := I.list h1
  obtain ⟨its2, r2, l2, _⟩ := I.list h2
  refine SeqAt.eq_list_lengthsAt l1.isList l2.isList ?_ (by omega) ⟨.bl false, H, I, rfl, hq⟩
  rw [List.size_toArray, List.size_toArray, ← r1.length, ← r2.length]
  simpa using hne
theorem op_neLen {X : Cx} (hu : X.A.units + 1 < cLine) : OpR X (compareOp .NotEq) (rLen X.K true) := by
  intro pins s σ H x y v u Q I rx ry h
  obtain ⟨p, q, xs, ys, rfl, rfl, h1, h2, hne, hq⟩ := h
  cases rx
  cases ry
  obtain ⟨its, r1, l1, _⟩ := I.list h1
  obtain ⟨its2, r2, l2, _⟩ := I.list h2
  have go := SeqAt.RcNeAt.lists_lengths (A := X.A) l1.isList l2.isList (by rw [List.size_toArray, List.size_toArray, ← r1.length, ← r2.length]; simpa using hne) (by omega)
  exact go X.prog X.w X.xe _ ⟨.bl true, H, I, rfl, hq⟩
def gLenNe (neg : Bool) : D → D → M D := fun x y st => match lstOf st x, lstOf st y with
  | some xs, some ys => if xs.length = ys.length then none else some (.bl neg, st)
  | _, _ => none
theorem sr_lenNe {K : PySem.W.Frag} {neg : Bool} : SR2 K (rLen K neg) (gLenNe neg) := by
  intro m H st x y dx dy Q d st' T rx ry h post
  simp only [gLenNe] at h
  split at h
  · rename_i xs ys h1 h2
    split at h
    · cases h
    · rename_i hne
      cases h
      obtain ⟨p, vs, e1, r1, q1⟩ := lst_sq T rx h1
      obtain ⟨p2, vs2, e2, r2, q2⟩ := lst_sq T ry h2
      exact ⟨p, p2, vs, vs2, e1, e2, q1, q2, by rw [← r1.length, ← r2.length]; exact hne, post m H _ .refl T (.bl _)⟩
  · cases h
/-! ## each operator with all its kinds -/
def gEqA : D → D → M D := or2 (gEq false) (gLenNe false)
def gNeA : D → D → M D := or2 (gEq true) (gLenNe true)
theorem op_eqAll {X : Cx} {k : Nat} (hr : Room k X.A) : OpR X (compareOp .Eq) (fun x y H Q => rEqD X.K x y H Q ∨ rLen X.K false x y H Q) := (op_eqD hr.units).or (op_eqLen (hu_of hr))
theorem op_neAll {X : Cx} {k : Nat} (hr : Room k X.A) : OpR X (compareOp .NotEq) (fun x y H Q => rNeD X.K x y H Q ∨ rLen X.K true x y H Q) := (op_neD hr.units).or (op_neLen (hu_of hr))
theorem sr_eqAll {K : PySem.W.Frag} : SR2 K (fun x y H Q => rEqD K x y H Q ∨ rLen K false x y H Q) gEqA := sr_eq.or sr_lenNe
theorem sr_neAll {K : PySem.W.Frag} : SR2 K (fun x y H Q => rNeD K x y H Q ∨ rLen K true x y H Q) gNeA := sr_ne.or sr_lenNe
def gInA (neg : Bool) : D → D → M D := or2 (gIn neg) (gSign neg)
theorem op_inAll {X : Cx} {k : Nat} (hr : Room k X.A) : OpR X (compareOp .In) (fun x y H Q => rInS X.K false x y H Q ∨ rSign false x y H Q) := (op_inS (hu_of hr)).or op_signIn
theorem op_notInAll {X : Cx} {k : Nat} (hr : Room k X.A) : OpR X (compareOp .NotIn) (fun x y H Q => rInS X.K true x y H Q ∨ rSign true x y H Q) := (op_notInS (hu_of hr)).or op_signNot
theorem sr_inAll {K : PySem.W.Frag} {neg : Bool} : SR2 K (fun x y H Q => rInS K neg x y H Q ∨ rSign neg x y H Q) (gInA neg) := sr_in.or sr_sign
def gMul : D → D → M D := or2 (gI fun i j => if CMul i j then some (.int (i * j)) else none) gMulS
theorem op_mulAll {X : Cx} : OpR X (binaryOp .Mult) (fun x y H Q => rI CMul (fun i j => .int (i * j)) x y H Q ∨ rMulS x y H Q) := op_mul.or op_mulS
theorem sr_mulAll {K : PySem.W.Frag} : SR2 K (fun x y H Q => rI CMul (fun i j => .int (i * j)) x y H Q ∨ rMulS x y H Q) gMul := sr_I.or sr_mulS
def gSub : D → D → M D := gI fun i j => some (.int (i - j))
theorem sr_sub {K : PySem.W.Frag} : SR2 K (rI0 fun i j => .int (i - j)) gSub := sr_I0
def gMod : D → D → M D := gI fun i j => if 0 < j then some (.int (i % j)) else none
theorem sr_mod {K : PySem.W.Frag} : SR2 K (rI (fun _ j => 0 < j) fun i j => .int (i % j)) gMod := sr_I
def gDiv : D → D → M D := gI fun i j => if CDiv i j then some (.int (i / j)) else none
theorem sr_div {K : PySem.W.Frag} : SR2 K (rI CDiv fun i j => .int (i / j)) gDiv := sr_I
def gPow : D → D → M D := gI fun i j => if CPow i j then some (.int (i ^ j.toNat)) else none
theorem sr_pow {K : PySem.W.Frag} : SR2 K (rI CPow fun i j => .int (i ^ j.toNat)) gPow := sr_I
def gLt : D → D → M D := or2 (gI fun i j => some (.bl (decide (i < j)))) (gS fun i j => some (.bl (decide (i.cps.toList < j.cps.toList))))
def gLe : D → D → M D := or2 (gI fun i j => some (.bl (decide (i ≤ j)))) (gS fun i j => some (.bl (!decide (j.cps.toList < i.cps.toList))))
def gGt : D → D → M D := or2 (gI fun i j => some (.bl (decide (j < i)))) (gS fun i j => some (.bl (decide (j.cps.toList < i.cps.toList))))
def gGe : D → D → M D := or2 (gI fun i j => some (.bl (decide (j ≤ i)))) (gS fun i j => some (.bl (!decide (i.cps.toList < j.cps.toList))))
theorem op_ltAll {X : Cx} : OpR X (compareOp .Lt) (fun x y H Q => rI0 (fun i j => .bl (decide (i < j))) x y H Q ∨ (∃ i j, x = .str i ∧ y = .str j ∧ Q (.bl (decide (i.cps.toList < j.cps.toList))) H)) := op_lt.or op_lt_str
theorem op_leAll {X : Cx} : OpR X (compareOp .LtE) (fun x y H Q => rI0 (fun i j => .bl (decide (i ≤ j))) x y H Q ∨ (∃ i j, x = .str i ∧ y = .str j ∧ Q (.bl (!decide (j.cps.toList < i.cps.toList))) H)) := op_le.or op_le_str
theorem op_gtAll {X : Cx} : OpR X (compareOp .Gt) (fun x y H Q => rI0 (fun i j => .bl (decide (j < i))) x y H Q ∨ (∃ i j, x = .str i ∧ y = .str j ∧ Q (.bl (decide (j.cps.toList < i.cps.toList))) H)) := op_gt.or op_gt_str
theorem op_geAll {X : Cx} : OpR X (compareOp .GtE) (fun x y H Q => rI0 (fun i j => .bl (decide (j ≤ i))) x y H Q ∨ (∃ i j, x = .str i ∧ y = .str j ∧ Q (.bl (!decide (i.cps.toList < j.cps.toList))) H)) := op_ge.or op_ge_str
theorem sr_lt {K : PySem.W.Frag} : SR2 K (fun x y H Q => rI0 (fun i j => .bl (decide (i < j))) x y H Q ∨ (∃ i j, x = .str i ∧ y = .str j ∧ Q (.bl (decide (i.cps.toList < j.cps.toList))) H)) gLt := sr_B0.or sr_cmpS
theorem sr_le {K : PySem.W.Frag} : SR2 K (fun x y H Q => rI0 (fun i j => .bl (decide (i ≤ j))) x y H Q ∨ (∃ i j, x = .str i ∧ y = .str j ∧ Q (.bl (!decide (j.cps.toList < i.cps.toList))) H)) gLe := sr_B0.or sr_cmpS
theorem sr_gt {K : PySem.W.Frag} : SR2 K (fun x y H Q => rI0 (fun i j => .bl (decide (j < i))) x y H Q ∨ (∃ i j, x = .str i ∧ y = .str j ∧ Q (.bl (decide (j.cps.toList < i.cps.toList))) H)) gGt := sr_B0.or sr_cmpS
theorem sr_ge {K : PySem.W.Frag} : SR2 K (fun x y H Q => rI0 (fun i j => .bl (decide (j ≤ i))) x y H Q ∨ (∃ i j, x = .str i ∧ y = .str j ∧ Q (.bl (!decide (i.cps.toList < j.cps.toList))) H)) gGe := sr_B0.or sr_cmpS
/-- x is None -/
def gIsN (neg : Bool) : D → D → M D := fun x y st => match y with
  | .non => some (.bl (neg != (match x with | .non => true | _ => false)), st)
  | _ => none
theorem sr_isN {K : PySem.W.Frag} : SR2 K (fun x y H Q => y = .non ∧ Q (.bl (decide (x = .non))) H) (gIsN false) := by
  intro m H st x y dx dy Q d st' T rx ry h post
  cases ry with
  | non =>
    cases h
    refine ⟨rfl, ?_⟩
    cases rx <;> exact post m H _ .refl T (.bl _)
  | _ => cases h
theorem sr_notN {K : PySem.W.Frag} : SR2 K (fun x y H Q => y = .non ∧ Q (.bl (!decide (x = .non))) H) (gIsN true) := by
  intro m H st x y dx dy Q d st' T rx ry h post
  cases ry with
  | non =>
    cases h
    refine ⟨rfl, ?_⟩
    cases rx <;> exact post m H _ .refl T (.bl _)
  | _ => cases h

/-! ## methods, with what they are asked of -/
def eMethL (g : D → List D → M D) (fo : Fx) (fa : Fa) : Fx := fun r => bnd (fo r) fun x => bnd (fun st => match x with
  | .loc l => match st[l]? with
    | some (.lst _) => some ((), st)
    | _ => none
  | _ => none) fun _ => bnd (fa r) fun ds => g x ds
theorem fe_bmL {X : Cx} {id : String} {name : Str} {r : V → List V → Hp → VK → Prop} {g : D → List D → M D} {o e : Expr} {es : List Expr} {fo : Fx} {fa : Fa} {apos cpos : Pos} (slot : Slot "list" name id) (hty : typeOf (.builtin id) = pure (.type "method_descriptor")) (hm : MtR X id r)
    (hs : SRm X.K r g) (ho : FE X o fo) (ha : FA X (e :: es) fa)
    (hbase : attributeBase o name X.env (eval o X.env) = eval o X.env := by rfl)
    (hfew : ((backTo cpos (starEach (e :: es) X.env)).all (fun x => !x.1) && (backToKw cpos (keywordEach [] X.env)).all (fun x => x.1.isSome)
      && decide ((e :: es).length + ([] : List Keyword).length + (if ([] : List Keyword).isEmpty then 0 else 1) < 30)) = true := by rfl)
    (hline : (apos.endLine == cpos.line) = true := by rfl) (hst : starEach (e :: es) X.env = (false, eval e X.env) :: starEach es X.env := by rfl) (hplain : (backTo cpos (starEach es X.env)).any (·.1) = false := by rfl) :
    FE X (.Call (.Attribute o name apos) (e :: es) [] cpos) (eMethL g fo fa) := by
  obtain ⟨to, po, so⟩ := ho
  obtain ⟨t, p, sa⟩ := ha
  refine ⟨_, pe_bm PySem.F.plainAttrs_list slot hty hm po p hbase hfew hline hst hplain, fun m H st ρ σ Q d st' T E hf post => ?_⟩
  obtain ⟨x, s1, h1, hf1⟩ := bnd_some hf
  obtain ⟨_, s1', h1', hf2⟩ := bnd_some hf1
  obtain ⟨ds, s2, h2, hf3⟩ := bnd_some hf2
  refine so m H st ρ σ _ x s1 T E h1 fun m1 H1 v l1 T1 r1 => ?_
  cases x with
  | loc l =>
    simp only at h1'
    split at h1'
    · rename_i xs hc
      cases h1'
      refine ⟨?_, ?_⟩
      · obtain ⟨a, vs, e1, _, hv, _⟩ := T1.list hc r1
        subst e1
        exact .inl ⟨rfl, vs, SqL.of hv⟩
      · refine sa m1 H1 _ ρ σ _ ds s2 T1 (E.mono l1) h2 fun m2 H2 vs l2 T2 r2 => ?_
        exact hs m2 H2 s2 v (.loc l) vs ds Q d st' T2 (Rp.mono l2 _ _ r1) r2 hf3 (Pst.le (l1.trans l2) post)
    · cases h1'
  | _ => cases h1'
theorem fe_append {X : Cx} {o e : Expr} {fo : Fx} {fa : Fa} {apos cpos : Pos} (ho : FE X o fo) (ha : FA X [e] fa)
    (hbase : attributeBase o "append" X.env (eval o X.env) = eval o X.env := by rfl)
    (hfew : ((backTo cpos (starEach [e] X.env)).all (fun x => !x.1) && (backToKw cpos (keywordEach [] X.env)).all (fun x => x.1.isSome)
      && decide ([e].length + ([] : List Keyword).length + (if ([] : List Keyword).isEmpty then 0 else 1) < 30)) = true := by rfl)
    (hline : (apos.endLine == cpos.line) = true := by rfl) (hst : starEach [e] X.env = (false, eval e X.env) :: starEach [] X.env := by rfl) (hplain : (backTo cpos (starEach [] X.env)).any (·.1) = false := by rfl) :
    FE X (.Call (.Attribute o "append" apos) [e] [] cpos) (eMethL gAppend fo fa) := fe_bmL PySem.F.slot_list_append PySem.F.type_list_append mt_append sr_append ho ha hbase hfew hline hst hplain
theorem fe_extend {X : Cx} {o e : Expr} {fo : Fx} {fa : Fa} {apos cpos : Pos} (ho : FE X o fo) (ha : FA X [e] fa)
    (hbase : attributeBase o "extend" X.env (eval o X.env) = eval o X.env := by rfl)
    (hfew : ((backTo cpos (starEach [e] X.env)).all (fun x => !x.1) && (backToKw cpos (keywordEach [] X.env)).all (fun x => x.1.isSome)
      && decide ([e].length + ([] : List Keyword).length + (if ([] : List Keyword).isEmpty then 0 else 1) < 30)) = true := by rfl)
    (hline : (apos.endLine == cpos.line) = true := by rfl) (hst : starEach [e] X.env = (false, eval e X.env) :: starEach [] X.env := by rfl) (hplain : (backTo cpos (starEach [] X.env)).any (·.1) = false := by rfl) :
    FE X (.Call (.Attribute o "extend" apos) [e] [] cpos) (eMethL gExtend fo fa) := fe_bmL PySem.F.slot_list_extend PySem.F.type_list_extend mt_extend sr_extend ho ha hbase hfew hline hst hplain
theorem fe_insert {X : Cx} {o e e2 : Expr} {fo : Fx} {fa : Fa} {apos cpos : Pos} (ho : FE X o fo) (ha : FA X [e, e2] fa)
    (hbase : attributeBase o "insert" X.env (eval o X.env) = eval o X.env := by rfl)
    (hfew : ((backTo cpos (starEach [e, e2] X.env)).all (fun x => !x.1) && (backToKw cpos (keywordEach [] X.env)).all (fun x => x.1.isSome)
      && decide ([e, e2].length + ([] : List Keyword).length + (if ([] : List Keyword).isEmpty then 0 else 1) < 30)) = true := by rfl)
    (hline : (apos.endLine == cpos.line) = true := by rfl) (hst : starEach [e, e2] X.env = (false, eval e X.env) :: starEach [e2] X.env := by rfl) (hplain : (backTo cpos (starEach [e2] X.env)).any (·.1) = false := by rfl) :
    FE X (.Call (.Attribute o "insert" apos) [e, e2] [] cpos) (eMethL gInsert fo fa) := fe_bmL PySem.F.slot_list_insert PySem.F.type_list_insert mt_insert sr_insert ho ha hbase hfew hline hst hplain
theorem fe_upper {X : Cx} {o : Expr} {fo : Fx} {apos cpos : Pos} (ho : FE X o fo)
    (hbase : attributeBase o "upper" X.env (eval o X.env) = eval o X.env := by rfl) (hline : (apos.endLine == cpos.line) = true := by rfl) : FE X (.Call (.Attribute o "upper" apos) [] [] cpos) (eMeth gUpper fo aNil) :=
  fe_bm0 PySem.F.plainAttrs_str PySem.F.slot_str_upper PySem.F.type_str_upper mt_upper sr_upper ty_upper ho hbase hline
theorem boot_ty_int : bootBuiltins "int" = some (.type "int") := by decide +kernel
theorem boot_ty_str : bootBuiltins "str" = some (.type "str") := by decide +kernel
theorem boot_ty_bool : bootBuiltins "bool" = some (.type "bool") := by decide +kernel
theorem boot_ty_tuple : bootBuiltins "tuple" = some (.type "tuple") := by decide +kernel
theorem boot_ty_list : bootBuiltins "list" = some (.type "list") := by decide +kernel
theorem boot_ty_dict : bootBuiltins "dict" = some (.type "dict") := by decide +kernel
theorem bf_isi : bootBuiltins "isinstance" = some (.builtin "isinstance") := by decide +kernel
theorem bf_len : bootBuiltins "len" = some (.builtin "len") := by decide +kernel
theorem bf_abs : bootBuiltins "abs" = some (.builtin "abs") := by decide +kernel
theorem bf_all : bootBuiltins "all" = some (.builtin "all") := by decide +kernel
theorem bf_any : bootBuiltins "any" = some (.builtin "any") := by decide +kernel
theorem bf_repr : bootBuiltins "repr" = some (.builtin "repr") := by decide +kernel
theorem bf_sorted : bootBuiltins "sorted" = some (.builtin "sorted") := by decide +kernel
end Fe
namespace Fe
open PySem PySem.Spec PyProof.Rows L2
def gAddI : D → D → M D := gI fun i j => some (.int (i + j))
theorem sr_addI {K : PySem.W.Frag} : SR2 K (rI0 fun i j => .int (i + j)) gAddI := sr_I0
/-- a, b = x, y -/
def sPar (i j : Nat) (fa : Fa) : Fs := fun r => bnd (fa r) fun ds => match ds with
  | [x, y] => ret (.nx ((r.set i (some x)).set j (some y)))
  | _ => stuck
theorem fs_par {X : Cx} {i j : Nat} {x y : Str} {a b : Expr} {fa : Fa} {px py pt pos : Pos} {kt k2 pt2} (hc : X.calm = true) (hN : X.N.Nodup) (ha : FA X [a, b] fa) (hi : X.N[i]? = some x := by rfl) (hj : X.N[j]? = some y := by rfl) (hij : i ≠ j := by decide)
    (hx : X.env.scope.names.lookup x = some .local := by rfl) (hy : X.env.scope.names.lookup y = some .local := by rfl)
    (hw : swappedStores [.Tuple [.Name x px, .Name y py] kt pt] (.Tuple [a, b] k2 pt2) X.env = pure (some [x, y]) := by rfl)
    (hs : swapsWithSole [.Tuple [.Name x px, .Name y py] kt pt] (.Tuple [a, b] k2 pt2) pos.line X.env = pure false := by rfl) :
    FS X (.Assign [.Tuple [.Name x px, .Name y py] kt pt] (.Tuple [a, b] k2 pt2) pos) (sPar i j fa) := by
  obtain ⟨t, p, sa⟩ := ha
  refine ⟨_, ps_par hc hN hi hj hij hx hy p hw hs, fun m H st r σ D0 o st' T E hf post => ?_⟩
  obtain ⟨ds, s1, h1, hf⟩ := bnd_some hf
  match ds, h1, hf with
  | [d, e], h1, hf =>
    cases hf
    refine sa m H st r σ _ _ _ T E h1 fun m1 H1 vs l1 T1 rv => ?_
    obtain ⟨v, w, rfl, rv, rw'⟩ := rv.two
    exact ⟨v, w, rfl, post m1 H1 _ l1 T1 (((E.mono l1).set rv).set rw')⟩
  | [], _, hf => cases hf
  | [_], _, hf => cases hf
  | _ :: _ :: _ :: _, _, hf => cases hf
theorem fe_globI {X : Cx} {x : Str} {n : Int} {pos : Pos} (hg : Gl X x) (hm : ∃ t, X.mg x = some (.int n t)) (hdb : (x == ("__debug__" : Str)) = false := by decide) : FE X (.Name x pos) (eC (.int n)) :=
  fe_glob (v := .int n) hg hm.choose_spec ⟨_, rfl⟩ (fun _ _ => .int n) hdb
end Fe
namespace Fe
open PySem PySem.Spec PyProof.Rows L2
/-! ## dicts: with ints and texts as keys, with tuples of such as keys -/
def keyD : D → Option Key
  | .int i => some (.inl i)
  | .str x => some (.inr x)
  | _ => none
def keysD : List D → Option (List Key)
  | [] => some []
  | d :: ds => (keyD d).bind fun k => (keysD ds).map (k :: ·)
section
variable {κ : Type} [DecidableEq κ]
def atD (kvs : List (κ × D)) (k : κ) : Option D := (kvs.find? fun kv => decide (kv.1 = k)).map (·.2)
def putD (kvs : List (κ × D)) (k : κ) (d : D) : List (κ × D) := if (kvs.any fun kv => decide (kv.1 = k)) = true then kvs.map (fun kv => if kv.1 = k then (kv.1, d) else kv) else kvs ++ [(k, d)]
variable {K : PySem.W.Frag} {m : List Addr} {H : Hp}
theorem atD_rp (k : κ) : ∀ {kvs : List (κ × D)} {ws : List (κ × V)}, RpKv K m H kvs ws → (atD kvs k = none ∧ valV ws k = none) ∨ ∃ d v, atD kvs k = some d ∧ valV ws k = some v ∧ Rp K m H d v
  | _, _, .nil => .inl ⟨rfl, rfl⟩
  | _, _, .cons (a := p) (b := q) r t => by
    by_cases e : p.1 = k
    · refine .inr ⟨p.2, q.2, ?_, ?_, r.2⟩
      · simp [atD, List.find?_cons, e]
      · exact valV_pos (r.1.symm.trans e)
    · have e2 : ¬ q.1 = k := fun z => e (r.1.trans z)
      have h1 : ∀ ks : List (κ × D), atD (p :: ks) k = atD ks k := fun ks => by simp [atD, List.find?_cons, e]
      rw [h1, valV_neg e2]
      exact atD_rp k t
theorem any_rp (k : κ) : ∀ {kvs : List (κ × D)} {ws : List (κ × V)}, RpKv K m H kvs ws → (kvs.any fun kv => decide (kv.1 = k)) = (ws.any fun kv => decide (kv.1 = k))
  | _, _, .nil => rfl
  | _, _, .cons r t => by simp only [List.any_cons, r.1, any_rp k t]
theorem map_rp (k : κ) {d : D} {v : V} (rv : Rp K m H d v) : ∀ {kvs : List (κ × D)} {ws : List (κ × V)}, RpKv K m H kvs ws → RpKv K m H (kvs.map fun kv => if kv.1 = k then (kv.1, d) else kv) (ws.map fun kv => if kv.1 = k then (kv.1, v) else kv)
  | _, _, .nil => .nil
  | _, _, .cons (a := p) (b := q) r t => by
    refine .cons ?_ (map_rp k rv t)
    by_cases e : p.1 = k
    · have e2 : q.1 = k := r.1.symm.trans e
      simp only [e, e2, if_true]
      exact ⟨trivial, rv⟩
    · have e2 : ¬ q.1 = k := fun z => e (r.1.trans z)
      simp only [e, e2, if_false]
      exact r
theorem snoc_rp {k : κ} {d : D} {v : V} (rv : Rp K m H d v) : ∀ {kvs : List (κ × D)} {ws : List (κ × V)}, RpKv K m H kvs ws → RpKv K m H (kvs ++ [(k, d)]) (ws ++ [(k, v)])
  | _, _, .nil => .cons ⟨rfl, rv⟩ .nil
  | _, _, .cons r t => .cons r (snoc_rp rv t)
theorem putD_rp (k : κ) {d : D} {v : V} (rv : Rp K m H d v) {kvs : List (κ × D)} {ws : List (κ × V)} (r : RpKv K m H kvs ws) : RpKv K m H (putD kvs k d) (putK ws k v) := by
  unfold putD putK
  rw [any_rp k r]
  split
  · exact map_rp k rv r
  · exact snoc_rp rv r
theorem rpkv_len : ∀ {kvs : List (κ × D)} {ws : List (κ × V)}, RpKv K m H kvs ws → kvs.length = ws.length
  | _, _, .nil => rfl
  | _, _, .cons _ t => by rw [List.length_cons, List.length_cons, rpkv_len t]
end
section
variable {K : PySem.W.Frag} {m : List Addr} {H : Hp} {st : Sto}
theorem key_rp {d : D} {v : V} {k : Key} (r : Rp K m H d v) (h : keyD d = some k) : v = kV k := by
  cases r <;> cases h <;> rfl
theorem keys_rp : ∀ {ds : List D} {vs : List V} {ks : List Key}, RpL K m H ds vs → keysD ds = some ks → vs = ks.map kV
  | [], _, _, .nil, h => by cases h; rfl
  | d :: ds, _, ks, .cons r t, h => by
    simp only [keysD] at h
    cases e : keyD d with
    | none => rw [e] at h; cases h
    | some k =>
      rw [e] at h
      cases e2 : keysD ds with
      | none => rw [e2] at h; cases h
      | some ks' =>
        rw [e2] at h; cases h
        rw [key_rp r e, keys_rp t e2]; rfl
def dGet (st : Sto) : D → D → Option (Option D)
  | .loc l, y => match st[l]?, y with
    | some (.dct kvs), y => (keyD y).map (atD kvs)
    | some (.dtt kvs), .tup ds => (keysD ds).map (atD kvs)
    | _, _ => none
  | _, _ => none
theorem dget_of (T : Tie K m H st) {x y : V} {dx dy : D} {o : Option D} (rx : Rp K m H dx x) (ry : Rp K m H dy y) (h : dGet st dx dy = some o) :
    ∃ a ov, x = .ref a ∧ DGet H a y ov ∧ ((o = none ∧ ov = none) ∨ ∃ d v, o = some d ∧ ov = some v ∧ Rp K m H d v) := by
  cases rx with
  | loc hm =>
    rename_i l a
    simp only [dGet] at h
    split at h
    · rename_i dk xo y' kvs hc
      obtain ⟨a', e1, ws, e2, rk⟩ := T.addr hc
      have : a' = a := by rw [hm] at e1; cases e1; rfl
      subst this
      cases e : keyD dk with
      | none => rw [e] at h; cases h
      | some k =>
        rw [e] at h; cases h
        have ey := key_rp ry e
        subst ey
        refine ⟨a', _, rfl, DGet.k (k := k) e2, ?_⟩
        rcases atD_rp k rk with ⟨z1, z2⟩ | ⟨d, v, z1, z2, z3⟩
        · exact .inl ⟨z1, z2⟩
        · exact .inr ⟨d, v, z1, z2, z3⟩
    · rename_i kvs ds hc
      obtain ⟨a', e1, ws, e2, rk⟩ := T.addr hc
      have : a' = a := by rw [hm] at e1; cases e1; rfl
      subst this
      cases e : keysD ds with
      | none => rw [e] at h; cases h
      | some ks =>
        rw [e] at h; cases h
        cases ry with
        | tup hq rr =>
          have ev := keys_rp rr e
          subst ev
          refine ⟨a', _, rfl, DGet.t (k := ks) e2 hq, ?_⟩
          rcases atD_rp ks rk with ⟨z1, z2⟩ | ⟨d, v, z1, z2, z3⟩
          · exact .inl ⟨z1, z2⟩
          · exact .inr ⟨d, v, z1, z2, z3⟩
    · cases h
  | _ => cases h
end
/-! d[k] -/
def gIxD : D → D → M D := fun x y st => match dGet st x y with
  | some (some d) => some (d, st)
  | _ => none
def rIxDG : R2 := fun x y H Q => ∃ a v, x = .ref a ∧ DGet H a y (some v) ∧ Q v H
theorem ix_dictG {X : Cx} (hu : X.A.units + 1 < cLine) : IxR X rIxDG := by
  intro value slice pins s σ H x y v u Q I rx ry h hs
  obtain ⟨a, w, rfl, g, q⟩ := h
  obtain rfl : v = Value.ref a := rx
  exact tail_any (dict_typeIs I g) PySem.F.slot_dict_getitem.lookup (d_getItem hu I g ry fun w' s3 I3 rw' => ⟨w, H, I3, rw', q⟩) hs
theorem sr_ixD {K : PySem.W.Frag} : SR2 K rIxDG gIxD := by
  intro m H st x y dx dy Q d st' T rx ry h post
  simp only [gIxD] at h
  split at h
  · rename_i d' hd
    cases h
    obtain ⟨a, ov, e, g, z⟩ := dget_of T rx ry hd
    rcases z with ⟨z, _⟩ | ⟨d2, v, z1, z2, z3⟩
    · cases z
    · cases z1; subst z2
      exact ⟨a, v, e, g, post m H v .refl T z3⟩
  · cases h
def gIxA : D → D → M D := or2 gIx gIxD
theorem ix_all {X : Cx} {k : Nat} (hr : Room k X.A) : IxR X (fun x y H Q => rIx X.K x y H Q ∨ rIxDG x y H Q) := ix_seq.or (ix_dictG (hu_of hr))
theorem sr_ixA {K : PySem.W.Frag} : SR2 K (fun x y H Q => rIx K x y H Q ∨ rIxDG x y H Q) gIxA := sr_ix.or sr_ixD
/-! k in d -/
def gInD (neg : Bool) : D → D → M D := fun x y st => match dGet st y x with
  | some o => some (.bl (neg != o.isSome), st)
  | none => none
def rInDG (neg : Bool) : R2 := fun x y H Q => ∃ a ov, y = .ref a ∧ DGet H a x ov ∧ Q (.bl (neg != ov.isSome)) H
theorem op_inDG {X : Cx} (hu : X.A.units + 1 < cLine) : OpR X (compareOp .In) (rInDG false) := by
  intro pins s σ H x y v u Q I rx ry h
  obtain ⟨a, ov, rfl, g, q⟩ := h
  obtain rfl : u = Value.ref a := ry
  exact d_in hu I g rx fun s3 I3 => ⟨.bl ov.isSome, H, I3, rfl, by simpa using q⟩
theorem op_notInDG {X : Cx} (hu : X.A.units + 1 < cLine) : OpR X (compareOp .NotIn) (rInDG true) := by
  intro pins s σ H x y v u Q I rx ry h
  obtain ⟨a, ov, rfl, g, q⟩ := h
  obtain rfl : u = Value.ref a := ry
  exact d_notIn hu I g rx fun s3 I3 => ⟨.bl (!ov.isSome), H, I3, rfl, by simpa using q⟩
theorem sr_inDG {K : PySem.W.Frag} {neg : Bool} : SR2 K (rInDG neg) (gInD neg) := by
  intro m H st x y dx dy Q d st' T rx ry h post
  simp only [gInD] at h
  split at h
  · rename_i o hd
    cases h
    obtain ⟨a, ov, e, g, z⟩ := dget_of T ry rx hd
    refine ⟨a, ov, e, g, ?_⟩
    have es : ov.isSome = o.isSome := by
      rcases z with ⟨z1, z2⟩ | ⟨d2, v, z1, z2, z3⟩ <;> subst z1 z2 <;> rfl
    rw [es]
    exact post m H _ .refl T (.bl _)
  · cases h
def gInB (neg : Bool) : D → D → M D := or2 (gInA neg) (gInD neg)
theorem op_inB {X : Cx} {k : Nat} (hr : Room k X.A) : OpR X (compareOp .In) (fun x y H Q => (rInS X.K false x y H Q ∨ rSign false x y H Q) ∨ rInDG false x y H Q) := (op_inAll hr).or (op_inDG (hu_of hr))
theorem op_notInB {X : Cx} {k : Nat} (hr : Room k X.A) : OpR X (compareOp .NotIn) (fun x y H Q => (rInS X.K true x y H Q ∨ rSign true x y H Q) ∨ rInDG true x y H Q) := (op_notInAll hr).or (op_notInDG (hu_of hr))
theorem sr_inB {K : PySem.W.Frag} {neg : Bool} : SR2 K (fun x y H Q => (rInS K neg x y H Q ∨ rSign neg x y H Q) ∨ rInDG neg x y H Q) (gInB neg) := sr_inAll.or sr_inDG
/-! d[k] = v -/
def gSetD : D → D → D → M Unit := fun x y v st => match x with
  | .loc l => match st[l]?, y with
    | some (.dct kvs), y => (keyD y).bind fun k => if kvs.length < sizeLine then some ((), st.set l (.dct (putD kvs k v))) else none
    | some (.dtt kvs), .tup ds => (keysD ds).bind fun k => if kvs.length < sizeLine then some ((), st.set l (.dtt (putD kvs k v))) else none
    | _, _ => none
  | _ => none
theorem srs_setD {K : PySem.W.Frag} : SRset K rSetD gSetD := by
  intro m H st o i v o' i' v' Q st' T ro ri rv h post
  cases ro with
  | loc hm =>
    rename_i l a
    simp only [gSetD] at h
    split at h
    · rename_i dk xo y' kvs hc
      obtain ⟨a', e1, ws, e2, rk⟩ := T.addr hc
      have : a' = a := by rw [hm] at e1; cases e1; rfl
      subst this
      cases e : keyD dk with
      | none => rw [e] at h; cases h
      | some k =>
        rw [e] at h
        simp only [Option.bind_some] at h
        split at h
        · rename_i hl
          cases h
          have ey := key_rp ri e
          subst ey
          refine ⟨a', _, rfl, DPut.k (k := k) (v := v) e2 (by rw [← rpkv_len rk]; exact hl), ?_⟩
          obtain ⟨T', le⟩ := T.change (c := .dct (putD kvs k v')) (o := .dK (putK ws k v)) hm (fun H' l' e' => ⟨_, e', putD_rp k (Rp.mono l' _ _ rv) (RpKv.mono l' rk)⟩)
          exact post m _ le T'
        · cases h
    · rename_i kvs ds hc
      obtain ⟨a', e1, ws, e2, rk⟩ := T.addr hc
      have : a' = a := by rw [hm] at e1; cases e1; rfl
      subst this
      cases e : keysD ds with
      | none => rw [e] at h; cases h
      | some ks =>
        rw [e] at h
        simp only [Option.bind_some] at h
        split at h
        · rename_i hl
          cases h
          cases ri with
          | tup hq rr =>
            have ev := keys_rp rr e
            subst ev
            refine ⟨a', _, rfl, DPut.t (k := ks) (v := v) e2 hq (by rw [← rpkv_len rk]; exact hl), ?_⟩
            obtain ⟨T', le⟩ := T.change (c := .dtt (putD kvs ks v')) (o := .dT (putK ws ks v)) hm (fun H' l' e' => ⟨_, e', putD_rp ks (Rp.mono l' _ _ rv) (RpKv.mono l' rk)⟩)
            exact post m _ le T'
        · cases h
    · cases h
  | _ => cases h
end Fe
namespace Fe
open PySem PySem.Spec PyProof.Rows L2
/-! ## tuples of whose object more is known: made by a display, by tuple(list) -/
def tTupP (t : TA) : TE := fun σ H Q => t σ H fun xs H1 => xs.length ≤ sizeLine ∧ ∀ p o, PlainT o → H1 p = none → Q (.ref p) (upd H1 p (.frz o (.tup xs)))
theorem pe_tupP {X : Cx} {es : List Expr} {t : TA} {x1 pos} (h : PA X es t) : PE X (.Tuple es x1 pos) (tTupP t) := by
  refine ⟨fun pins s σ H Q I hq => ?_⟩
  refine wpAny_Tuple_spliced (thn (h.run pos pins s σ H _ I hq) fun us s1 ⟨xs, H1, I1, rel, z, q⟩ => ⟨rel.length ▸ z, ?_⟩)
  have hf : H1 s1.heap.objs.size = none := I1.hok.fresh (Nat.le_refl _)
  refine ⟨.ref s1.heap.objs.size, upd H1 s1.heap.objs.size (.frz { cls := .type "tuple", data := .seq us.toArray } (.tup xs)), I1.laid (t' := s1.toks) (fun b u e => Heap.get?_push_of_some _ e) (Nat.le_refl _) ?_, rfl, q _ _ ⟨rfl, rfl, _, _, rfl⟩ hf⟩
  exact ⟨Heap.get?_push_size _ rfl, z, us, rel, ⟨_, Heap.get?_push_size _ rfl, rfl, _, rfl⟩⟩
theorem call_tupleP {X : Cx} : CallR X (.type "tuple") (fun xs H Q => ∃ p ys, xs = [.ref p] ∧ SqL X.K H p ys ∧ ∀ l o, PlainT o → H l = none → Q (.ref l) (upd H l (.frz o (.tup ys)))) := by
  intro pins s σ H xs us Q I r h
  obtain ⟨p, ys, rfl, hq, q⟩ := h
  obtain ⟨u, rfl, rx⟩ := vals1 r
  cases rx
  obtain ⟨its, r', pl, hz⟩ := I.list hq
  have hlen := r'.length
  refine call_tuple_list pl.isList (fun h' kp => ?_) (by simp only [List.size_toArray] <;> omega)
  have I1 : Inv X pins σ H { s with heap := h' } := I.kept (t' := s.toks) kp
  have I2 : Inv X pins σ (upd H h'.objs.size (.frz { cls := .type "tuple", data := .seq its.toArray } (.tup ys))) { s with heap := h'.push { cls := .type "tuple", data := .seq its.toArray } } :=
    I1.laid (t' := s.toks) (fun b o e => Heap.get?_push_of_some _ e) (Nat.le_refl _) (show ObjOk X.prog X.w _ _ _ (.frz _ (.tup ys)) from ⟨Heap.get?_push_size _ rfl, hz, its, r', IsTup.new _ _⟩)
  exact ⟨.ref h'.objs.size, _, I2, rfl, q _ _ ⟨rfl, rfl, _, _, rfl⟩ (I1.hok.fresh (Nat.le_refl _))⟩
def eTupP (g : Fa) : Fx := fun r => bnd (g r) fun ds st => if small ds = true then some (.ptp ds, st) else none
theorem post_ptp {K : PySem.W.Frag} {m : List Addr} {H : Hp} {st : Sto} {ds : List D} {vs : List V} {Q : VK} (T : Tie K m H st) (r : RpL K m H ds vs) (post : Pst K m H st (.ptp ds) Q) {p : Addr} {o : Obj} (pl : PlainT o) (hp : H p = none) : Q (.ref p) (upd H p (.frz o (.tup vs))) :=
  post m _ _ (Le.new hp) (T.new hp) (.ptp (.inl ⟨_, upd_same, pl⟩) (RpL.mono (Le.new hp) _ _ r))
theorem fe_tupP {X : Cx} {es : List Expr} {g : Fa} {x1 pos} (h : FA X es g) : FE X (.Tuple es x1 pos) (eTupP g) := by
  obtain ⟨t, p, s⟩ := h
  refine ⟨_, pe_tupP p, fun m H st ρ σ Q d st' T E hf post => ?_⟩
  obtain ⟨ds, s1, h1, hf⟩ := bnd_some hf
  split at hf
  · rename_i hz
    cases hf
    refine s m H st ρ σ _ ds _ T E h1 fun m1 H1 vs l1 T1 r1 => ⟨small_le hz r1, fun q o pl hq => ?_⟩
    exact post_ptp T1 r1 (Pst.le l1 post) pl hq
  · cases hf
def gTupleP : List D → M D := fun ds st => match ds with
  | [d] => (lstOf st d).map fun xs => (.ptp xs, st)
  | _ => none
theorem sr_tupleP {K : PySem.W.Frag} : SRs K (fun xs H Q => ∃ p ys, xs = [.ref p] ∧ SqL K H p ys ∧ ∀ l o, PlainT o → H l = none → Q (.ref l) (upd H l (.frz o (.tup ys)))) gTupleP := by
  intro m H st vs ds Q d st' T r h post
  match ds, r with
  | [e], .cons re .nil =>
    simp only [gTupleP] at h
    cases hs : lstOf st e with
    | none => rw [hs] at h; cases h
    | some xs =>
      rw [hs] at h; cases h
      obtain ⟨p, ws, e1, r1, q⟩ := lst_sq T re hs
      subst e1
      exact ⟨p, ws, rfl, q, fun l o pl hl => post_ptp T r1 post pl hl⟩
  | [], _ => simp [gTupleP] at h
  | _ :: _ :: _, _ => simp [gTupleP] at h
theorem ptAt_obj {X : Cx} {pins : List (Addr × Obj)} {σ : L2.St} {H : Hp} {s : Shared} {a : Addr} {vs : List V} (I : Inv X pins σ H s) (h : PtAt X.K H a vs) : ∃ o its n, s.heap.get? a = some o ∧ PlainT o ∧ o.data = .seq its.toArray n ∧ vs.length ≤ sizeLine ∧ Vals vs its := by
  rcases h with ⟨o, h, pl⟩ | ⟨o, its, n, h, hc, hd, hi, hz, r⟩
  · obtain ⟨ho, hz, its, rv, o', ho', hc', n, hd'⟩ := (show ObjOk X.prog X.w H s.heap a (.frz o (.tup vs)) from I.hok a _ h)
    rw [ho] at ho'
    cases ho'
    exact ⟨o, its, n, ho, pl, hd', hz, rv⟩
  · exact ⟨o, its.toList, n, I.kIn a o h, ⟨hc, hd, _, _, hi⟩, by simpa using hi, by rw [r.length]; simpa using hz, r⟩
/-! dict(pairs) of such a tuple -/
section
variable {X : Cx}
theorem pairs_vals {pins : List (Addr × Obj)} {σ : L2.St} {H : Hp} {s : Shared} (I : Inv X pins σ H s) : ∀ {ps : List Addr} {kvs : List (Key × V)}, Paired (fun p kv => SqT X.K H p [kV kv.1, kv.2]) ps kvs →
    ∃ (L : List (Value × Value)) (prs : List (Key × Value)), KV kvs prs ∧ L.length = ps.length ∧ prs.length = ps.length ∧ ∀ (j : Nat) (k v : Value), L[j]? = some (k, v) → ∃ (b : Addr) (key : Key), ps[j]? = some b ∧ prs[j]? = some (key, v) ∧ IsTup s.heap b #[k, v] ∧ keyIs key k = true
  | _, _, .nil => ⟨[], [], .nil, rfl, rfl, fun j k v e => by simp at e⟩
  | _, _, .cons (a := p) (b := kv) h t => by
    obtain ⟨L, prs, r, hl, hl2, hp⟩ := pairs_vals I t
    obtain ⟨its, rv, ht, _⟩ := I.tuple h
    obtain ⟨u, y, ei, ru, ry⟩ := vals2 rv
    subst ei
    refine ⟨(u, y) :: L, (kv.1, y) :: prs, .cons ⟨rfl, ry⟩ r, by rw [List.length_cons, List.length_cons, hl], by rw [List.length_cons, List.length_cons, hl2], fun j k v e => ?_⟩
    cases j with
    | zero =>
      have e' : (u, y) = (k, v) := Option.some.inj e
      cases e'
      exact ⟨p, kv.1, rfl, rfl, ht, kV_is (P := X.prog) (w := X.w) ru⟩
    | succ j =>
      obtain ⟨b, key, e1, e2, e3, e4⟩ := hp j k v (by simpa using e)
      exact ⟨b, key, by simpa using e1, by simpa using e2, e3, e4⟩
def rDictP (K : PySem.W.Frag) : List V → Hp → VK → Prop := fun xs H Q => ∃ (a : Addr) (ps : List Addr) (kvs : List (Key × V)), xs = [.ref a] ∧ PtAt K H a (ps.map V.ref) ∧ Paired (fun p kv => SqT K H p [kV kv.1, kv.2]) ps kvs ∧
    ∀ p, H p = none → Q (.ref p) (upd H p (.dK (mergeK [] kvs)))
theorem call_dictPt (hcalm : X.calm = true) : CallR X (.type "dict") (rDictP X.K) := by
  intro pins s σ H xs us Q I r q
  obtain ⟨a, ps, kvs, ex, hq, hp, q⟩ := q
  subst ex
  obtain ⟨u, eu, rx⟩ := vals1 r
  subst eu
  cases rx
  obtain ⟨o, its, n, ho, pl, hd', hz, rv⟩ := ptAt_obj I hq
  have ei := refs_at rv
  subst ei
  rw [List.length_map] at hz
  obtain ⟨L, prs, rel, hl, hl2, hpr⟩ := pairs_vals I hp
  have ok : PlainSeq "tuple" s.heap a (ps.map Value.ref).toArray ∧ PairItems s.heap (ps.map Value.ref).toArray (fun j => ps.getD j 0) L := by
    refine ⟨⟨o, n, ho, pl.cls, pl.dict, hd'⟩, by simp [hl], fun j k v e => ?_⟩
    obtain ⟨b, key, e1, e2, e3, e4⟩ := hpr j k v e
    refine ⟨by simp [e1], .inl ?_⟩
    have : ps.getD j 0 = b := by simp [e1]
    show s.heap.IsTuple (ps.getD j 0) #[k, v]
    rw [this]
    exact e3
  have hv : PairsHave (mixKind X.prog X.w) L.length (PairRel L) prs := ⟨by rw [hl, hl2], fun i key v e => by
    obtain ⟨b, k, e1, e2, e3, e4⟩ := hpr i key v e
    exact ⟨k, e2, e4⟩⟩
  refine PySem.call_dict_pairs (knd := mixKind X.prog X.w) (PairArg.tuple a (ps.map Value.ref).toArray (fun j => ps.getD j 0) L) (I.ok.hd hcalm) ok hv (by rw [hl]; exact hz) fun h' tk hdo k => ?_
  have hm : (s.heap.objs.size == sysModules) = false := beq_eq_false_iff_ne.mpr (Nat.ne_of_gt I.big)
  have hlen : (mergeK [] kvs).length ≤ sizeLine := by
    refine Nat.le_trans (length_mergeK kvs []) ?_
    rw [List.length_nil, Nat.zero_add, rel.length, hl2]
    exact hz
  exact ⟨.ref s.heap.objs.size, upd H s.heap.objs.size (.dK (mergeK [] kvs)), I.laid (t' := tk) (fun b o e => k b o (by simp) e) (Nat.le_refl _) (show ObjOk X.prog X.w _ _ _ (.dK (mergeK [] kvs)) from ⟨hlen, hm, merged [] prs, KV.merge rel .nil, hdo⟩), rfl, q _ (I.hok.fresh (Nat.le_refl _))⟩
end
def pairD : D → Option (Key × D)
  | .tup [k, v] => (keyD k).map fun k => (k, v)
  | .ptp [k, v] => (keyD k).map fun k => (k, v)
  | _ => none
def mergeD (kvs : List (Key × D)) : List (Key × D) := kvs.foldl (fun acc kv => putD acc kv.1 kv.2) []
/-- dict(pairs), the pairs in a list or a plain tuple -/
def gDict : List D → M D := fun ds st => match ds with
  | [d] => match (match d with | .ptp xs => some xs | d => lstOf st d) with
    | some xs => match xs.mapM pairD with
      | some kvs => some (.loc st.length, st ++ [.dct (mergeD kvs)])
      | none => none
    | none => none
  | _ => none
theorem mergeD_rp {K : PySem.W.Frag} {m : List Addr} {H : Hp} : ∀ {kvs acc : List (Key × D)} {ws aw : List (Key × V)}, RpKv K m H kvs ws → RpKv K m H acc aw → RpKv K m H (kvs.foldl (fun acc kv => putD acc kv.1 kv.2) acc) (mergeK aw ws)
  | _, _, _, _, .nil, h => h
  | _, _, _, _, .cons (a := p) (b := q) r t, h => by
    show RpKv K m H (List.foldl _ (putD _ p.1 p.2) _) (mergeK (putK _ q.1 q.2) _)
    rw [r.1]
    exact mergeD_rp t (putD_rp q.1 r.2 h)
theorem pair_rp {K : PySem.W.Frag} {m : List Addr} {H : Hp} {d : D} {v : V} {kd : Key × D} (r : Rp K m H d v) (h : pairD d = some kd) : ∃ (p : Addr) (w : V), v = .ref p ∧ SqT K H p [kV kd.1, w] ∧ Rp K m H kd.2 w := by
  have go : ∀ (k e : D) (vs : List V), RpL K m H [k, e] vs → (keyD k).map (fun k => (k, e)) = some kd → ∃ w, vs = [kV kd.1, w] ∧ Rp K m H kd.2 w := fun k e vs rr hk => by
    obtain ⟨v1, v2, rfl, r1, r2⟩ := rr.two
    cases q : keyD k with
    | none => rw [q] at hk; cases hk
    | some key => rw [q] at hk; cases hk; rw [key_rp r1 q]; exact ⟨v2, rfl, r2⟩
  cases r with
  | tup hq rr =>
    rename_i xs a vs
    match xs, h, rr with
    | [k, e], h, rr =>
      obtain ⟨w, e1, r2⟩ := go k e vs rr h
      subst e1
      exact ⟨a, w, rfl, SqT.of hq, r2⟩
    | [], h, _ => cases h
    | [_], h, _ => cases h
    | _ :: _ :: _ :: _, h, _ => cases h
  | ptp hq rr =>
    rename_i xs a vs
    match xs, h, rr with
    | [k, e], h, rr =>
      obtain ⟨w, e1, r2⟩ := go k e vs rr h
      subst e1
      exact ⟨a, w, rfl, hq.sq, r2⟩
    | [], h, _ => cases h
    | [_], h, _ => cases h
    | _ :: _ :: _ :: _, h, _ => cases h
  | _ => cases h
theorem pairs_rp {K : PySem.W.Frag} {m : List Addr} {H : Hp} : ∀ {xs : List D} {vs : List V} {kds : List (Key × D)}, RpL K m H xs vs → xs.mapM pairD = some kds → ∃ (ps : List Addr) (kvs : List (Key × V)), vs = ps.map V.ref ∧ Paired (fun p kv => SqT K H p [kV kv.1, kv.2]) ps kvs ∧ RpKv K m H kds kvs
  | [], _, kds, .nil, h => by
    have : kds = [] := by simpa using h
    subst this
    exact ⟨[], [], rfl, .nil, .nil⟩
  | x :: xs, _, kds, .cons r t, h => by
    obtain ⟨y, ys, h1, h2, e⟩ := mapM_cons h
    subst e
    obtain ⟨ps, kvs, e1, p1, r1⟩ := pairs_rp t h2
    obtain ⟨p, w, e2, q2, r2⟩ := pair_rp r h1
    subst e1 e2
    exact ⟨p :: ps, (y.1, w) :: kvs, rfl, .cons q2 p1, .cons ⟨rfl, r2⟩ r1⟩
def rDictA (K : PySem.W.Frag) : List V → Hp → VK → Prop := fun xs H Q => rDictP K xs H Q ∨ (∃ (a : Addr) (ps : List Addr) (kvs : List (Key × V)), xs = [.ref a] ∧ SqL K H a (ps.map V.ref) ∧ Paired (fun p kv => SqT K H p [kV kv.1, kv.2]) ps kvs ∧
    ∀ p, H p = none → Q (.ref p) (upd H p (.dK (mergeK [] kvs))))
theorem call_dictA {X : Cx} (hcalm : X.calm = true) : CallR X (.type "dict") (rDictA X.K) := (call_dictPt hcalm).or (call_dictP hcalm)
theorem sr_dict {K : PySem.W.Frag} : SRs K (rDictA K) gDict := by
  intro m H st vs ds Q d st' T r h post
  match ds, r with
  | [e], .cons (v := v0) re .nil =>
    have fin : ∀ {kds : List (Key × D)} {kvs : List (Key × V)}, RpKv K m H kds kvs → some (D.loc st.length, st ++ [Cell.dct (mergeD kds)]) = some (d, st') → ∀ p, H p = none → Q (.ref p) (upd H p (.dK (mergeK [] kvs))) := fun {kds kvs} rk e p hp => by
      cases e
      obtain ⟨T', le⟩ := T.cell (c := .dct (mergeD kds)) hp fun m' H' le e => ⟨_, e, mergeD_rp (RpKv.mono le rk) .nil⟩
      exact post _ _ _ le T' (.loc (by rw [← T.len]; simp))
    have lists : ∀ {xs : List D} {kds : List (Key × D)}, lstOf st e = some xs → xs.mapM pairD = some kds → some (D.loc st.length, st ++ [Cell.dct (mergeD kds)]) = some (d, st') → rDictA K [v0] H Q := fun hs hk he => by
      obtain ⟨p, ws, e1, r1, q⟩ := lst_sq T re hs
      subst e1
      obtain ⟨ps, kvs, e2, p2, r2⟩ := pairs_rp r1 hk
      subst e2
      exact .inr ⟨p, ps, kvs, rfl, q, p2, fin r2 he⟩
    cases e with
    | ptp xs =>
      simp only [gDict] at h
      cases hk : xs.mapM pairD with
      | none => rw [hk] at h; cases h
      | some kds =>
        rw [hk] at h
        cases re with
        | ptp hq rr =>
          obtain ⟨ps, kvs, e2, p2, r2⟩ := pairs_rp rr hk
          subst e2
          exact .inl ⟨_, ps, kvs, rfl, hq, p2, fin r2 h⟩
    | loc l =>
      simp only [gDict] at h
      cases hs : lstOf st (.loc l) with
      | none => rw [hs] at h; cases h
      | some xs =>
        rw [hs] at h
        simp only at h
        cases hk : xs.mapM pairD with
        | none => rw [hk] at h; cases h
        | some kds => rw [hk] at h; exact lists hs hk h
    | rol xs =>
      simp only [gDict, lstOf] at h
      cases hk : xs.mapM pairD with
      | none => rw [hk] at h; cases h
      | some kds => rw [hk] at h; exact lists rfl hk h
    | _ => cases h
  | [], _ => simp [gDict] at h
  | _ :: _ :: _, _ => simp [gDict] at h
end Fe
namespace Fe
open PySem PySem.Spec PyProof.Rows L2
/-! enumerate of a list -/
def enumF : Nat → List D → List D
  | _, [] => []
  | i, d :: ds => .tup [.int (i : Int), d] :: enumF (i + 1) ds
theorem enum_get : ∀ {xs : List D} {n i : Nat} {d : D}, (enumF n xs)[i]? = some d → ∃ x, xs[i]? = some x ∧ d = .tup [.int ((n + i : Nat) : Int), x]
  | [], _, _, _, h => by simp [enumF] at h
  | y :: ys, n, 0, d, h => by
    simp [enumF] at h
    exact ⟨y, rfl, by rw [← h]; rfl⟩
  | y :: ys, n, i + 1, d, h => by
    simp only [enumF, List.getElem?_cons_succ] at h
    obtain ⟨x, h1, h2⟩ := enum_get h
    exact ⟨x, by simpa using h1, by rw [h2]; congr 3; omega⟩
theorem enum_len : ∀ (n : Nat) (xs : List D), (enumF n xs).length = xs.length
  | _, [] => rfl
  | n, _ :: xs => by simp only [enumF, List.length_cons, enum_len (n + 1) xs]
theorem jok_enum {K : PySem.W.Frag} {m : List Addr} {H : Hp} {a : Addr} {l : Nat} {xs : List D} (hl : m[l]? = some a) : JOk K (Ite K a) m H (enumF 0 xs) (okLst l xs) := by
  intro m1 H1 st le T hok i
  have hc := okLst_some hok
  obtain ⟨a', vs, e, _, hv, r⟩ := T.list hc (.loc (le.pre _ _ hl))
  cases e
  refine ⟨fun d hd => ?_, fun hi => ⟨vs, SqL.of hv, by rw [← r.length]; rw [enum_len] at hi; exact Nat.le_of_eq hi⟩⟩
  obtain ⟨x, hx, rfl⟩ := enum_get hd
  obtain ⟨v, hv2, rv⟩ := r.get hx
  refine ⟨⟨vs, v, SqL.of hv, hv2⟩, fun z H2 yl => ?_⟩
  obtain ⟨Tp, v', rfl, nT, rfl, f1⟩ := yl
  have e1 := f1 vs (SqL.of hv)
  rw [hv2] at e1; cases e1
  refine ⟨Le.new nT, T.new nT, .tup upd_same (.cons ?_ (.cons (Rp.mono (Le.new nT) _ _ rv) .nil))⟩
  rw [Nat.zero_add]
  exact .int _
def iEnumF (f : Fa) : Fi := fun r => bnd (f r) fun ds st => match ds with
  | [.loc l] => match st[l]? with
    | some (.lst xs) => some ((enumF 0 xs, okLst l xs), st)
    | _ => none
  | _ => none
theorem fi_enum {X : Cx} {e : Expr} {f : Fa} {p pos tpos : Pos} {elts : List Expr} {kk : Nat} (hg : Gl X "enumerate") (hm : X.mg "enumerate" = none) (ha : FA X [e] f) (hs : starEach [e] X.env = [(false, eval e X.env)] := by rfl) :
    FI X (.Tuple elts kk tpos) (.Call (.Name "enumerate" p) [e] [] pos) (iEnumF f) := by
  obtain ⟨t, pa, sa⟩ := ha
  refine ⟨_, pi_enum hg hm pa hs, fun m H st r σ R ds ok st' T E hf post => ?_⟩
  obtain ⟨es, s1, h1, hf⟩ := bnd_some hf
  match es, h1, hf with
  | [.loc l], h1, hf =>
    simp only at hf
    split at hf
    · rename_i xs hc
      cases hf
      refine sa m H st r σ _ _ _ T E h1 fun m1 H1 vs l1 T1 rv => ?_
      obtain ⟨v, rfl, rq⟩ := rv.one
      obtain ⟨a, ws, e, hl, hw, rw'⟩ := T1.list hc rq
      subst e
      exact ⟨a, ws, rfl, SqL.of hw, post m1 H1 _ l1 T1 (jok_enum hl)⟩
    · cases hf
/-! a list times an int -/
theorem RpL.rep {K : PySem.W.Frag} {m : List Addr} {H : Hp} {ds : List D} {vs : List V} (r : RpL K m H ds vs) : ∀ n : Nat, RpL K m H (List.replicate n ds).flatten (List.replicate n vs).flatten
  | 0 => .nil
  | n + 1 => by
    rw [List.replicate_succ, List.replicate_succ, List.flatten_cons, List.flatten_cons]
    exact RpL.app r (RpL.rep r n)
def gRep : D → D → M D := fun x y st => match x, y with
  | .loc l, .int k => match st[l]? with
    | some (.lst xs) => if 0 ≤ k ∧ k ≤ 1000 ∧ xs.length ≤ 1000 then some (.loc st.length, st ++ [.lst (List.replicate k.toNat xs).flatten]) else none
    | _ => none
  | _, _ => none
theorem sr_rep {K : PySem.W.Frag} : SR2 K rRep gRep := by
  intro m H st x y dx dy Q d st' T rx ry h post
  unfold gRep at h
  split at h
  · rename_i l k
    split at h
    · rename_i xs hc
      split at h
      · rename_i hz
        cases h
        cases ry
        obtain ⟨a, vs, e, hl, hv, r⟩ := T.list hc rx
        subst e
        have hz2 : vs.length * k.toNat ≤ sizeLine := by
          rw [← r.length, sizeLine_eq]
          have h1 : k.toNat ≤ 1000 := by omega
          have := Nat.mul_le_mul hz.2.2 h1
          omega
        refine ⟨a, k, vs, rfl, rfl, hv, by omega, by omega, hz2, fun p hp => ?_⟩
        obtain ⟨T', le⟩ := T.cell (c := .lst (List.replicate k.toNat xs).flatten) hp fun m' H' le e => ⟨_, e, RpL.mono le _ _ (RpL.rep r _)⟩
        exact post _ _ _ le T' (.loc (by rw [← T.len]; simp))
      · cases h
    · cases h
  · cases h
def gMulL : D → D → M D := or2 gMul gRep
theorem op_mulL {X : Cx} : OpR X (binaryOp .Mult) (fun x y H Q => (rI CMul (fun i j => .int (i * j)) x y H Q ∨ rMulS x y H Q) ∨ rRep x y H Q) := op_mulAll.or op_rep
theorem sr_mulL {K : PySem.W.Frag} : SR2 K (fun x y H Q => (rI CMul (fun i j => .int (i * j)) x y H Q ∨ rMulS x y H Q) ∨ rRep x y H Q) gMulL := sr_mulAll.or sr_rep
/-! two lists of the same cells -/
def isLocD : D → Bool
  | .loc _ => true
  | _ => false
def gEqS : D → D → M D := fun x y st => match lstOf st x, lstOf st y with
  | some xs, some ys => if (xs.all isLocD && D.sameL xs ys) = true then some (.bl true, st) else none
  | _, _ => none
theorem pair_same {K : PySem.W.Frag} {m : List Addr} {H H' : Hp} : ∀ {xs : List D} {vs ws : List V}, (∀ x, x ∈ xs → isLocD x = true) → RpL K m H xs vs → RpL K m H xs ws → Paired (EqV K H' 1) vs ws
  | _, _, _, _, .nil, .nil => .nil
  | x :: xs, _, _, h, .cons r t, .cons r' t' => by
    refine .cons ?_ (pair_same (fun y hy => h y (by simp [hy])) t t')
    have hx := h x (by simp)
    cases r with
    | loc hl =>
      cases r' with
      | loc hl' =>
        rw [hl] at hl'; cases hl'
        exact .inr (.inl ⟨_, rfl, rfl⟩)
    | _ => cases hx
theorem sr_eqS {K : PySem.W.Frag} : SR2 K (rEqV K) gEqS := by
  intro m H st x y dx dy Q d st' T rx ry h post
  unfold gEqS at h
  split at h
  · rename_i xs ys h1 h2
    split at h
    · rename_i hz
      cases h
      rw [Bool.and_eq_true] at hz
      have e := D.sameL_eq _ _ hz.2
      subst e
      obtain ⟨p, vs, rfl, r1, q1⟩ := lst_sq T rx h1
      obtain ⟨q, ws, rfl, r2, q2⟩ := lst_sq T ry h2
      exact ⟨1, by omega, .inl ⟨p, q, vs, ws, rfl, rfl, q1, q2, pair_same (fun z hz2 => List.all_eq_true.mp hz.1 z hz2) r1 r2⟩, post m H _ .refl T (.bl true)⟩
    · cases h
  · cases h
def gEqL : D → D → M D := or2 gEqA gEqS
theorem op_eqL {X : Cx} {k : Nat} (hr : Room k X.A) : OpR X (compareOp .Eq) (fun x y H Q => (rEqD X.K x y H Q ∨ rLen X.K false x y H Q) ∨ rEqV X.K x y H Q) := (op_eqAll hr).or (op_eqV hr.units)
theorem sr_eqL {K : PySem.W.Frag} : SR2 K (fun x y H Q => (rEqD K x y H Q ∨ rLen K false x y H Q) ∨ rEqV K x y H Q) gEqL := sr_eqAll.or sr_eqS
end Fe
namespace Fe
open PySem PySem.Spec PyProof.Rows L2

/-! ## what a run by values gives -/
def Wp {α : Type} (f : M α) (st : Sto) (Q : α → Sto → Prop) : Prop := ∃ x s1, f st = some (x, s1) ∧ Q x s1
section
variable {α β : Type} {st s1 : Sto} {x : α}
theorem wp_ret {Q : α → Sto → Prop} : Wp (ret x) st Q ↔ Q x st := ⟨fun ⟨_, _, h, q⟩ => by cases h; exact q, fun q => ⟨_, _, rfl, q⟩⟩
theorem wp_bnd {f : M α} {g : α → M β} {Q : β → Sto → Prop} : Wp (bnd f g) st Q ↔ Wp f st fun x s1 => Wp (g x) s1 Q := by
  constructor
  · rintro ⟨y, s2, h, q⟩
    obtain ⟨x, s1, h1, h2⟩ := bnd_some h
    exact ⟨x, s1, h1, y, s2, h2, q⟩
  · rintro ⟨x, s1, h1, y, s2, h2, q⟩
    exact ⟨y, s2, by unfold bnd; rw [h1]; exact h2, q⟩
theorem wp_run {f : M α} {Q : α → Sto → Prop} (h : f st = some (x, s1)) : Wp f st Q ↔ Q x s1 := ⟨fun ⟨_, _, h', q⟩ => by rw [h] at h'; cases h'; exact q, fun q => ⟨_, _, h, q⟩⟩
theorem Wp.mono {f : M α} {Q R : α → Sto → Prop} (h : Wp f st Q) (i : ∀ x s, Q x s → R x s) : Wp f st R := let ⟨x, s, e, q⟩ := h; ⟨x, s, e, i x s q⟩
theorem wp_ite {c : Prop} [Decidable c] {f g : M α} {Q : α → Sto → Prop} : Wp (if c then f else g) st Q ↔ if c then Wp f st Q else Wp g st Q := by split <;> rfl
theorem wp_nil {r : DEnv} {Q} : Wp (aNil r) st Q ↔ Q [] st := wp_ret
theorem wp_cons {f : Fx} {g : Fa} {r : DEnv} {Q} : Wp (aCons f g r) st Q ↔ Wp (f r) st fun d s1 => Wp (g r) s1 fun ds s2 => Q (d :: ds) s2 := by
  unfold aCons
  simp only [wp_bnd, wp_ret]
theorem wp_c {d : D} {r : DEnv} {Q} : Wp (eC d r) st Q ↔ Q d st := wp_run rfl
theorem wp_var {i : Nat} {r : DEnv} {Q} : Wp (eVar i r) st Q ↔ ∃ d, r[i]? = some (some d) ∧ Q d st := by
  unfold eVar
  constructor
  · rintro ⟨x, s, h, q⟩
    split at h
    · rename_i d e; cases h; exact ⟨_, e, q⟩
    · cases h
  · rintro ⟨d, e, q⟩
    exact ⟨d, st, by simp only [e], q⟩
theorem wp_bin {g : D → D → M D} {fa fb : Fx} {r : DEnv} {Q} : Wp (eBin g fa fb r) st Q ↔ Wp (fa r) st fun x s1 => Wp (fb r) s1 fun y s2 => Wp (g x y) s2 Q := by
  unfold eBin; simp only [wp_bnd]
theorem wp_un {g : D → M D} {fa : Fx} {r : DEnv} {Q} : Wp (eUn g fa r) st Q ↔ Wp (fa r) st fun x s1 => Wp (g x) s1 Q := by
  unfold eUn; simp only [wp_bnd]
theorem wp_call {g : List D → M D} {fa : Fa} {r : DEnv} {Q} : Wp (eCall g fa r) st Q ↔ Wp (fa r) st fun x s1 => Wp (g x) s1 Q := by
  unfold eCall; simp only [wp_bnd]
theorem wp_meth {g : D → List D → M D} {fo : Fx} {fa : Fa} {r : DEnv} {Q} : Wp (eMeth g fo fa r) st Q ↔ Wp (fo r) st fun x s1 => Wp (fa r) s1 fun ds s2 => Wp (g x ds) s2 Q := by
  unfold eMeth; simp only [wp_bnd]
theorem wp_methL {g : D → List D → M D} {fo : Fx} {fa : Fa} {r : DEnv} {Q} : Wp (eMethL g fo fa r) st Q ↔ Wp (fo r) st fun x s1 => (∃ l xs, x = .loc l ∧ s1[l]? = some (.lst xs)) ∧ Wp (fa r) s1 fun ds s2 => Wp (g x ds) s2 Q := by
  unfold eMethL
  simp only [wp_bnd]
  constructor
  · refine fun h => h.mono fun x s1 ⟨_, s2, h1, h2⟩ => ?_
    cases x with
    | loc l =>
      simp only at h1
      split at h1
      · rename_i xs e; cases h1; exact ⟨⟨l, xs, rfl, e⟩, h2⟩
      · cases h1
    | _ => cases h1
  · refine fun h => h.mono fun x s1 ⟨⟨l, xs, e, hl⟩, h2⟩ => ?_
    subst e
    exact ⟨(), s1, by simp only [hl], h2⟩
theorem wp_tup {g : Fa} {r : DEnv} {Q} : Wp (eTup g r) st Q ↔ Wp (g r) st fun ds s1 => ds.length ≤ sizeLine ∧ Q (.tup ds) s1 := by
  unfold eTup
  simp only [wp_bnd]
  have e : ∀ ds s1, Wp (fun st => if small ds = true then some (D.tup ds, st) else none) s1 Q ↔ ds.length ≤ sizeLine ∧ Q (.tup ds) s1 := fun ds s1 => by
    constructor
    · rintro ⟨x, s, h, q⟩
      simp only at h
      split at h
      · rename_i hs; cases h; exact ⟨of_decide_eq_true hs, q⟩
      · cases h
    · rintro ⟨h, q⟩
      exact ⟨_, _, if_pos (decide_eq_true h), q⟩
  simp only [e]
theorem wp_newL {ds : List D} {Q} : Wp (newL ds) st Q ↔ ds.length ≤ sizeLine ∧ Q (.loc st.length) (st ++ [.lst ds]) := by
  unfold newL
  constructor
  · rintro ⟨x, s, h, q⟩
    simp only at h
    split at h
    · rename_i hs; cases h; exact ⟨of_decide_eq_true hs, q⟩
    · cases h
  · rintro ⟨h, q⟩
    exact ⟨_, _, if_pos (decide_eq_true h), q⟩
theorem wp_lst {g : Fa} {r : DEnv} {Q} : Wp (eLst g r) st Q ↔ Wp (g r) st fun ds s1 => ds.length ≤ sizeLine ∧ Q (.loc s1.length) (s1 ++ [.lst ds]) := by
  unfold eLst
  simp only [wp_bnd, wp_newL]
theorem wp_oNone {r : DEnv} {Q} : Wp (oNone r) st Q ↔ Q none st := wp_ret
theorem wp_oSome {f : Fx} {r : DEnv} {Q} : Wp (oSome f r) st Q ↔ Wp (f r) st fun d s => ∃ i, d = .int i ∧ Q (some i) s := by
  unfold oSome
  rw [wp_bnd]
  constructor
  · refine fun h => h.mono fun x s h => ?_
    cases x with
    | int i => exact ⟨i, rfl, wp_ret.mp h⟩
    | _ => obtain ⟨_, _, h, _⟩ := h; cases h
  · refine fun h => h.mono fun x s ⟨i, e, h⟩ => ?_
    subst e; exact wp_ret.mpr h
theorem wp_sl {g : D → Option Int → Option Int → M D} {f : Fx} {lo hi : Fo} {r : DEnv} {Q} : Wp (eSl g f lo hi r) st Q ↔ Wp (f r) st fun x s => Wp (lo r) s fun i s1 => Wp (hi r) s1 fun j s2 => Wp (g x i j) s2 Q := by
  unfold eSl; simp only [wp_bnd]
theorem wp_asB {f : Fx} {r : DEnv} {Q} : Wp (asB f r) st Q ↔ Wp (f r) st fun d s => ∃ k, d = .bl k ∧ Q k s := by
  unfold asB
  rw [wp_bnd]
  constructor
  · refine fun h => h.mono fun x s h => ?_
    cases x with
    | bl k => exact ⟨k, rfl, wp_ret.mp h⟩
    | _ => obtain ⟨_, _, h, _⟩ := h; cases h
  · refine fun h => h.mono fun x s ⟨i, e, h⟩ => ?_
    subst e; exact wp_ret.mpr h
theorem wp_not {f : Ft} {r : DEnv} {Q} : Wp (tNotF f r) st Q ↔ Wp (f r) st fun c s => Q (!c) s := by
  unfold tNotF; simp only [wp_bnd, wp_ret]
theorem wp_andF {f g : Ft} {r : DEnv} {Q} : Wp (tAndF f g r) st Q ↔ Wp (f r) st fun c s => if c = true then Wp (g r) s Q else Q false s := by
  unfold tAndF; simp only [wp_bnd, wp_ret, wp_ite]
theorem wp_orF {f g : Ft} {r : DEnv} {Q} : Wp (tOrF f g r) st Q ↔ Wp (f r) st fun c s => if c = true then Q true s else Wp (g r) s Q := by
  unfold tOrF; simp only [wp_bnd, wp_ret, wp_ite]
theorem wp_and {f g : Fx} {r : DEnv} {Q} : Wp (eAnd f g r) st Q ↔ Wp (f r) st fun d s => ∃ k, d = .bl k ∧ if k = true then Wp (g r) s Q else Q (.bl false) s := by
  unfold eAnd
  rw [wp_bnd]
  constructor
  · refine fun h => h.mono fun x s h => ?_
    cases x with
    | bl k =>
      cases k with
      | true => exact ⟨true, rfl, h⟩
      | false => exact ⟨false, rfl, wp_ret.mp h⟩
    | _ => obtain ⟨_, _, h, _⟩ := h; cases h
  · refine fun h => h.mono fun x s ⟨k, e, h⟩ => ?_
    subst e
    cases k with
    | true => exact h
    | false => exact wp_ret.mpr h
theorem wp_eNot {f : Fx} {r : DEnv} {Q} : Wp (eNot f r) st Q ↔ Wp (f r) st fun d s => ∃ k, d = .bl k ∧ Q (.bl (!k)) s := by
  unfold eNot
  rw [wp_bnd]
  constructor
  · refine fun h => h.mono fun x s h => ?_
    cases x with
    | bl k => exact ⟨k, rfl, wp_ret.mp h⟩
    | _ => obtain ⟨_, _, h, _⟩ := h; cases h
  · refine fun h => h.mono fun x s ⟨k, e, h⟩ => ?_
    subst e; exact wp_ret.mpr h
theorem wp_chain {g g' : D → D → M D} {fa fb fc : Fx} {r : DEnv} {Q} : Wp (eChain g g' fa fb fc r) st Q ↔ Wp (fa r) st fun x s1 => Wp (fb r) s1 fun y s2 => Wp (g x y) s2 fun z s3 => ∃ k, z = .bl k ∧ if k = true then Wp (fc r) s3 fun w s4 => Wp (g' y w) s4 Q else Q (.bl false) s3 := by
  unfold eChain
  simp only [wp_bnd]
  constructor
  · refine fun h => h.mono fun x s1 h => h.mono fun y s2 h => h.mono fun z s3 h => ?_
    cases z with
    | bl k =>
      cases k with
      | true => exact ⟨true, rfl, wp_bnd.mp h⟩
      | false => exact ⟨false, rfl, wp_ret.mp h⟩
    | _ => obtain ⟨_, _, h, _⟩ := h; cases h
  · refine fun h => h.mono fun x s1 h => h.mono fun y s2 h => h.mono fun z s3 ⟨k, e, h⟩ => ?_
    subst e
    cases k with
    | true => exact wp_bnd.mpr h
    | false => exact wp_ret.mpr h
theorem wp_eIf {c : Ft} {f g : Fx} {r : DEnv} {Q} : Wp (eIf c f g r) st Q ↔ Wp (c r) st fun k s => if k = true then Wp (f r) s Q else Wp (g r) s Q := by
  unfold eIf; simp only [wp_bnd, wp_ite]
/-! statements -/
theorem wp_sNil {r : DEnv} {Q} : Wp (sNil r) st Q ↔ Q (.nx r) st := wp_ret
theorem wp_seq {g h : Fs} {r : DEnv} {Q} : Wp (sSeq g h r) st Q ↔ Wp (g r) st fun o s => match o with
    | .nx r1 => Wp (h r1) s Q
    | o => Q o s := by
  unfold sSeq
  rw [wp_bnd]
  constructor
  · refine fun h => h.mono fun o s h => ?_
    cases o with
    | nx r1 => exact h
    | _ => exact wp_ret.mp h
  · refine fun h => h.mono fun o s h => ?_
    cases o with
    | nx r1 => exact h
    | _ => exact wp_ret.mpr h
theorem wp_sExpr {f : Fx} {r : DEnv} {Q} : Wp (sExpr f r) st Q ↔ Wp (f r) st fun _ s => Q (.nx r) s := by
  unfold sExpr; simp only [wp_bnd, wp_ret]
theorem wp_sRet {f : Fx} {r : DEnv} {Q} : Wp (sRet f r) st Q ↔ Wp (f r) st fun d s => Q (.rt d) s := by
  unfold sRet; simp only [wp_bnd, wp_ret]
theorem wp_sAsg {f : Fx} {g : Fg} {r : DEnv} {Q} : Wp (sAsg f g r) st Q ↔ Wp (f r) st fun d s => Wp (g d r) s fun r1 s => Q (.nx r1) s := by
  unfold sAsg; simp only [wp_bnd, wp_ret]
theorem wp_gtName {i : Nat} {d : D} {r : DEnv} {Q} : Wp (gtName i d r) st Q ↔ Q (r.set i (some d)) st := wp_ret
theorem wp_sIf {c : Ft} {a b : Fs} {r : DEnv} {Q} : Wp (sIf c a b r) st Q ↔ Wp (c r) st fun k s => if k = true then Wp (a r) s Q else Wp (b r) s Q := by
  unfold sIf; simp only [wp_bnd, wp_ite]
theorem wp_sPar {i j : Nat} {fa : Fa} {r : DEnv} {Q} : Wp (sPar i j fa r) st Q ↔ Wp (fa r) st fun ds s => ∃ x y, ds = [x, y] ∧ Q (.nx ((r.set i (some x)).set j (some y))) s := by
  unfold sPar
  rw [wp_bnd]
  constructor
  · refine fun h => h.mono fun ds s h => ?_
    match ds, h with
    | [x, y], h => exact ⟨x, y, rfl, wp_ret.mp h⟩
    | [], ⟨_, _, h, _⟩ => cases h
    | [_], ⟨_, _, h, _⟩ => cases h
    | _ :: _ :: _ :: _, ⟨_, _, h, _⟩ => cases h
  · refine fun h => h.mono fun ds s ⟨x, y, e, h⟩ => ?_
    subst e; exact wp_ret.mpr h
theorem wp_gtSub {fo fi : Fx} {g : D → D → D → M Unit} {d : D} {r : DEnv} {Q} : Wp (gtSub fo fi g d r) st Q ↔ Wp (fo r) st fun o s => Wp (fi r) s fun i s => Wp (g o i d) s fun _ s => Q r s := by
  unfold gtSub; simp only [wp_bnd, wp_ret]
theorem wp_augS {fo fi fe : Fx} {gg gop : D → D → M D} {gs : D → D → D → M Unit} {r : DEnv} {Q} : Wp (sAugS fo fi fe gg gop gs r) st Q ↔ Wp (fo r) st fun o s => Wp (fi r) s fun i s => Wp (gg o i) s fun x s => Wp (fe r) s fun y s => Wp (gop x y) s fun z s => Wp (gs o i z) s fun _ s => Q (.nx r) s := by
  unfold sAugS; simp only [wp_bnd, wp_ret]
theorem wp_runB {n : Nat} {body : Fs} {ds : List D} {Q} : Wp (runB n body ds) st Q ↔ Wp (body (ds.map some ++ List.replicate (n - ds.length) none)) st fun o s => match o with
    | .nx _ => Q .non s
    | .rt d => Q d s
    | _ => False := by
  unfold runB
  rw [wp_bnd]
  constructor
  · refine fun h => h.mono fun o s h => ?_
    cases o with
    | nx _ => exact wp_ret.mp h
    | rt d => exact wp_ret.mp h
    | bk _ => obtain ⟨_, _, h, _⟩ := h; cases h
    | ct _ => obtain ⟨_, _, h, _⟩ := h; cases h
  · refine fun h => h.mono fun o s h => ?_
    cases o with
    | nx _ => exact wp_ret.mpr h
    | rt d => exact wp_ret.mpr h
    | bk _ => exact h.elim
    | ct _ => exact h.elim
/-! operators on known kinds -/
theorem wp_addI {a b : Int} {Q} : Wp (gAdd (.int a) (.int b)) st Q ↔ Q (.int (a + b)) st := wp_run rfl
theorem wp_addI2 {a b : Int} {Q} : Wp (gAddI (.int a) (.int b)) st Q ↔ Q (.int (a + b)) st := wp_run rfl
theorem wp_subI {a b : Int} {Q} : Wp (gSub (.int a) (.int b)) st Q ↔ Q (.int (a - b)) st := wp_run rfl
theorem wp_neg {a : Int} {Q} : Wp (gNeg (.int a)) st Q ↔ Q (.int (-a)) st := wp_run rfl
theorem wp_intI {a : Int} {Q} : Wp (gInt [.int a]) st Q ↔ Q (.int a) st := wp_run rfl
theorem wp_absI {a : Int} {Q} : Wp (gAbs [.int a]) st Q ↔ Q (.int (if a < 0 then -a else a)) st := wp_run rfl
theorem wp_addS {a b : Str} {Q} (h : a.length + b.length ≤ sizeLine) : Wp (gAdd (.str a) (.str b)) st Q ↔ Q (.str (a ++ b)) st := wp_run (by simp only [gAdd, gI, gS, if_pos h, Option.map_some])
theorem wp_addT {a b : List D} {Q} (h : a.length + b.length ≤ sizeLine) : Wp (gAdd (.tup a) (.tup b)) st Q ↔ Q (.tup (a ++ b)) st := wp_run (by simp only [gAdd, gI, gS, gCatT, if_pos h])
theorem wp_addL {l k : Nat} {a b : List D} {Q} (ha : st[l]? = some (.lst a)) (hb : st[k]? = some (.lst b)) (h : a.length + b.length ≤ sizeLine) : Wp (gAdd (.loc l) (.loc k)) st Q ↔ Q (.loc st.length) (st ++ [.lst (a ++ b)]) := wp_run (by simp only [gAdd, gI, gS, gCatT, gCatL, ha, hb, if_pos h])
theorem wp_mulI {a b : Int} {Q} (h : CMul a b) : Wp (gMul (.int a) (.int b)) st Q ↔ Q (.int (a * b)) st := wp_run (by simp only [gMul, or2, gI, if_pos h, Option.map_some])
theorem wp_mulS {a : Str} {n : Int} {Q} (h : 2 ≤ n ∧ n ≤ 1000 ∧ a.length ≤ 1000) : Wp (gMul (.str a) (.int n)) st Q ↔ Q (.str (repS a n.toNat)) st := wp_run (by simp only [gMul, or2, gI, gMulS, if_pos h])
theorem wp_modI {a b : Int} {Q} (h : 0 < b) : Wp (gMod (.int a) (.int b)) st Q ↔ Q (.int (a % b)) st := wp_run (by simp only [gMod, gI, if_pos h, Option.map_some])
theorem wp_divI {a b : Int} {Q} (h : CDiv a b) : Wp (gDiv (.int a) (.int b)) st Q ↔ Q (.int (a / b)) st := wp_run (by simp only [gDiv, gI, if_pos h, Option.map_some])
theorem wp_powI {a b : Int} {Q} (h : CPow a b) : Wp (gPow (.int a) (.int b)) st Q ↔ Q (.int (a ^ b.toNat)) st := wp_run (by simp only [gPow, gI, if_pos h, Option.map_some])
theorem wp_geI {a b : Int} {Q} : Wp (gGe (.int a) (.int b)) st Q ↔ Q (.bl (decide (b ≤ a))) st := wp_run rfl
theorem wp_gtI {a b : Int} {Q} : Wp (gGt (.int a) (.int b)) st Q ↔ Q (.bl (decide (b < a))) st := wp_run rfl
theorem wp_leI {a b : Int} {Q} : Wp (gLe (.int a) (.int b)) st Q ↔ Q (.bl (decide (a ≤ b))) st := wp_run rfl
theorem wp_ltI {a b : Int} {Q} : Wp (gLt (.int a) (.int b)) st Q ↔ Q (.bl (decide (a < b))) st := wp_run rfl
theorem wp_leS {a b : Str} {Q} : Wp (gLe (.str a) (.str b)) st Q ↔ Q (.bl (!decide (b.cps.toList < a.cps.toList))) st := wp_run rfl
theorem wp_ltS {a b : Str} {Q} : Wp (gLt (.str a) (.str b)) st Q ↔ Q (.bl (decide (a.cps.toList < b.cps.toList))) st := wp_run rfl
theorem wp_geS {a b : Str} {Q} : Wp (gGe (.str a) (.str b)) st Q ↔ Q (.bl (!decide (a.cps.toList < b.cps.toList))) st := wp_run rfl
theorem shaped_int {a : Int} : SeqAt.shaped (.int a) = true := by
  unfold SeqAt.shaped PyData.canLay0 PyData.depth; rfl
theorem wp_eqI {a b : Int} {Q} : Wp (gEqA (.int a) (.int b)) st Q ↔ Q (.bl (decide (a = b))) st := by
  refine wp_run ?_
  unfold gEqA or2 gEq
  simp only [toPy, shaped_int, Bool.and_self, if_true, PyData.eqv]
  rfl
theorem wp_ixL {l : Nat} {i : Int} {xs : List D} {d : D} {Q} (h : st[l]? = some (.lst xs)) (h2 : L2.atI xs i = some d) : Wp (gIx (.loc l) (.int i)) st Q ↔ Q d st := wp_run (by simp only [gIx, seqOf, h, Option.bind_some, h2, Option.map_some])
theorem wp_ixT {i : Int} {xs : List D} {d : D} {Q} (h2 : L2.atI xs i = some d) : Wp (gIx (.tup xs) (.int i)) st Q ↔ Q d st := wp_run (by simp only [gIx, seqOf, Option.bind_some, h2, Option.map_some])
theorem atI_nat {xs : List D} {k : Nat} {d : D} (h : xs[k]? = some d) : L2.atI xs (k : Int) = some d := by
  have hl : k < xs.length := (List.getElem?_eq_some_iff.mp h).1
  unfold L2.atI L2.ixN
  rw [if_pos (by omega), if_pos (by omega)]
  exact h
theorem wp_getL {l : Nat} {i : Int} {xs : List D} {d : D} {Q} (h : st[l]? = some (.lst xs)) (h0 : 0 ≤ i) (h2 : xs[i.toNat]? = some d) : Wp (gGetL (.loc l) (.int i)) st Q ↔ Q d st := wp_run (by simp only [gGetL, h, if_pos h0, h2, Option.map_some])
theorem wp_setL {l : Nat} {i : Int} {xs : List D} {d : D} {Q} (h : st[l]? = some (.lst xs)) (h0 : 0 ≤ i ∧ i < xs.length) : Wp (gSetL (.loc l) (.int i) d) st Q ↔ Q () (st.set l (.lst (xs.set i.toNat d))) := wp_run (by simp only [gSetL, h, if_pos h0])
theorem wp_slL {l : Nat} {xs : List D} {lo hi : Option Int} {Q} (h : st[l]? = some (.lst xs)) : Wp (gSl (.loc l) lo hi) st Q ↔ Q (.loc st.length) (st ++ [.lst (cutD xs lo hi)]) := wp_run (by simp only [gSl, lstOf, h])
theorem wp_slR {xs : List D} {lo hi : Option Int} {Q} : Wp (gSl (.rol xs) lo hi) st Q ↔ Q (.loc st.length) (st ++ [.lst (cutD xs lo hi)]) := wp_run rfl
theorem wp_slT {xs : List D} {lo hi : Option Int} {Q} : Wp (gSl (.tup xs) lo hi) st Q ↔ Q (.tup (cutD xs lo hi)) st := wp_run rfl
theorem wp_slS {x : Str} {lo hi : Option Int} {Q} (h : x.length ≤ sizeLine) : Wp (gSl (.str x) lo hi) st Q ↔ Q (.str (cutS x lo hi)) st := wp_run (by simp only [gSl, if_pos h])
theorem wp_lenL {l : Nat} {xs : List D} {Q} (h : st[l]? = some (.lst xs)) : Wp (gLen [.loc l]) st Q ↔ Q (.int xs.length) st := wp_run (by simp only [gLen, seqOf, h, Option.map_some])
theorem wp_lenT {xs : List D} {Q} : Wp (gLen [.tup xs]) st Q ↔ Q (.int xs.length) st := wp_run rfl
theorem wp_lenS {x : Str} {Q} (h : x.length ≤ sizeLine) : Wp (gLen [.str x]) st Q ↔ Q (.int x.length) st := wp_run (by simp only [gLen, if_pos h])
theorem wp_isi {d : D} {n t : String} {b : Bool} {Q} (h : tyName st d = some t) (h2 : kitB t n = some b) : Wp (gIsi [d, .ty n]) st Q ↔ Q (.bl b) st := wp_run (by simp only [gIsi, h, h2, Option.map_some])
/-! loops -/
theorem wp_for {it : Fi} {g : Fg} {body : Fs} {r : DEnv} {Q} : Wp (sFor it g body r) st Q ↔ Wp (it r) st fun p s => Wp (forF g body p.2 p.1 r) s Q := by
  unfold sFor; rw [wp_bnd]
/-- a for loop, by an invariant over what is still to come; no break, no return -/
theorem wp_forF {g : Fg} {body : Fs} {ok : Sto → Bool} (Inv : List D → DEnv → Sto → Prop) (hok : ∀ ds r s, Inv ds r s → ok s = true)
    (hstep : ∀ d ds r s, Inv (d :: ds) r s → Wp (g d r) s fun r1 s1 => Wp (body r1) s1 fun o s2 => ∃ r2, (o = .nx r2 ∨ o = .ct r2) ∧ Inv ds r2 s2) :
    ∀ (ds : List D) (r : DEnv) (s : Sto) (Q : Out → Sto → Prop), Inv ds r s → (∀ r s, Inv [] r s → Q (.nx r) s) → Wp (forF g body ok ds r) s Q
  | [], r, s, Q, h, q => ⟨_, _, by rw [forF_nil, if_pos (hok _ _ _ h)], q r s h⟩
  | d :: ds, r, s, Q, h, q => by
    obtain ⟨r1, s1, e1, o, s2, e2, r2, ho, h2⟩ := hstep d ds r s h
    obtain ⟨x, s3, e3, q3⟩ := wp_forF Inv hok hstep ds r2 s2 Q h2 q
    refine ⟨x, s3, ?_, q3⟩
    rw [forF_cons, if_pos (hok _ _ _ h)]
    unfold bnd
    rw [e1]
    simp only
    rw [e2]
    rcases ho with e | e <;> subst e <;> exact e3
theorem wp_lc {it : Fi} {g : Fg} {tt : Ft} {te : Fx} {vs : List Nat} {r : DEnv} {Q} : Wp (eLc it g tt te vs r) st Q ↔ Wp (it r) st fun p s => Wp (lcF g tt te p.2 (wipeD r vs) p.1 []) s fun acc s => Q (.loc s.length) (s ++ [.lst acc]) := by
  unfold eLc
  rw [wp_bnd]
  constructor
  · refine fun h => h.mono fun p s h => ?_
    exact (wp_bnd.mp h).mono fun acc s h => (wp_run rfl).mp h
  · refine fun h => h.mono fun p s h => ?_
    exact wp_bnd.mpr (h.mono fun acc s h => (wp_run rfl).mpr h)
/-- a comprehension whose parts leave the cells as they are -/
theorem wp_lcF {g : Fg} {tt : Ft} {te : Fx} {ok : Sto → Bool} {r : DEnv} {s : Sto} (t : D → Bool) (e : D → D) (hok : ok s = true) : ∀ (ds acc : List D) (Q : List D → Sto → Prop), acc.length + ds.length ≤ sizeLine →
    (∀ d, d ∈ ds → ∃ r1, g d r s = some (r1, s) ∧ tt r1 s = some (t d, s) ∧ (t d = true → te r1 s = some (e d, s))) → Q (acc ++ (ds.filter t).map e) s → Wp (lcF g tt te ok r ds acc) s Q
  | [], acc, Q, _, _, q => ⟨_, _, by rw [lcF_nil, if_pos hok], by simpa using q⟩
  | d :: ds, acc, Q, hl, h, q => by
    obtain ⟨r1, h1, h2, h3⟩ := h d (by simp)
    rw [List.length_cons] at hl
    cases ht : t d with
    | false =>
      obtain ⟨x, s3, e3, q3⟩ := wp_lcF t e hok ds acc Q (by omega) (fun d' hd => h d' (by simp [hd])) (by simpa [List.filter_cons, ht] using q)
      refine ⟨x, s3, ?_, q3⟩
      rw [lcF_cons, if_pos hok]
      unfold bnd
      rw [h1]
      simp only
      rw [h2, ht]
      exact e3
    | true =>
      obtain ⟨x, s3, e3, q3⟩ := wp_lcF t e hok ds (acc ++ [e d]) Q (by rw [List.length_append, List.length_singleton]; omega) (fun d' hd => h d' (by simp [hd])) (by simpa [List.filter_cons, ht] using q)
      refine ⟨x, s3, ?_, q3⟩
      rw [lcF_cons, if_pos hok]
      unfold bnd
      rw [h1]
      simp only
      rw [h2, ht]
      simp only [if_true]
      rw [h3 ht]
      simp only
      rw [if_pos (by omega)]
      exact e3
end
end Fe
namespace Fe
open PySem PySem.Spec PyProof.Rows L2

/-! ## the bag: a list cell that is changed, all else is kept -/
def Bag (st : Sto) (b : Nat) : Prop := ∃ (a s n : Int) (l3 l4 : Nat) (cells : List Int), st[b]? = some (.lst [.int a, .int s, .int n, .loc l3, .loc l4]) ∧ st[l3]? = some (.lst (cells.map .int)) ∧ 0 ≤ a ∧ 0 ≤ s ∧ 0 ≤ n ∧ (∀ c, c ∈ cells → 0 ≤ c) ∧ l3 < b ∧ cells.length ≤ 63
/-- the cells, but for the bag's -/
def Grow (b : Nat) (st st' : Sto) : Prop := st.length ≤ st'.length ∧ ∀ l, l ≠ b → l < st.length → st'[l]? = st[l]?
theorem Grow.refl {b : Nat} {st : Sto} : Grow b st st := ⟨Nat.le_refl _, fun _ _ _ => rfl⟩
theorem Grow.trans {b : Nat} {s1 s2 s3 : Sto} (h : Grow b s1 s2) (h' : Grow b s2 s3) : Grow b s1 s3 := ⟨Nat.le_trans h.1 h'.1, fun l n lt => (h'.2 l n (Nat.lt_of_lt_of_le lt h.1)).trans (h.2 l n lt)⟩
theorem Grow.app {b : Nat} {st ys : Sto} : Grow b st (st ++ ys) := ⟨by rw [List.length_append]; omega, fun l _ lt => List.getElem?_append_left lt⟩
theorem Grow.app' {b : Nat} {st s1 ys : Sto} (h : Grow b st s1) : Grow b st (s1 ++ ys) := h.trans .app
theorem Grow.put {b : Nat} {st : Sto} {c : Cell} : Grow b st (st.set b c) := ⟨by rw [List.length_set]; exact Nat.le_refl _, fun l n _ => by rw [List.getElem?_set_ne (Ne.symm n)]⟩
theorem Grow.get {b l : Nat} {st st' : Sto} {c : Cell} (h : Grow b st st') (n : l ≠ b) (e : st[l]? = some c) : st'[l]? = some c := by rw [h.2 l n (List.getElem?_eq_some_iff.mp e).1]; exact e
theorem Bag.lt {st : Sto} {b : Nat} (h : Bag st b) : b < st.length := by
  obtain ⟨a, s, n, l3, l4, cells, e, _⟩ := h
  exact (List.getElem?_eq_some_iff.mp e).1
theorem Bag.app {st ys : Sto} {b : Nat} (h : Bag st b) : Bag (st ++ ys) b := by
  obtain ⟨a, s, n, l3, l4, cells, e, e3, h⟩ := h
  exact ⟨a, s, n, l3, l4, cells, by rw [List.getElem?_append_left (List.getElem?_eq_some_iff.mp e).1]; exact e, by rw [List.getElem?_append_left (List.getElem?_eq_some_iff.mp e3).1]; exact e3, h⟩
/-- a cell beside the bag's that no bag holds is changed -/
theorem get_app {st ys : Sto} {l : Nat} {c : Cell} (e : st[l]? = some c) : (st ++ ys)[l]? = some c := by rw [List.getElem?_append_left (List.getElem?_eq_some_iff.mp e).1]; exact e
theorem get_end {st : Sto} {c : Cell} : (st ++ [c])[st.length]? = some c := by simp
theorem get_put {st : Sto} {l : Nat} {c d : Cell} (e : st[l]? = some d) : (st.set l c)[l]? = some c := by rw [List.getElem?_set_self (List.getElem?_eq_some_iff.mp e).1]
theorem get_off {st : Sto} {l k : Nat} {c d : Cell} (n : l ≠ k) (e : st[l]? = some d) : (st.set k c)[l]? = some d := by rw [List.getElem?_set_ne (Ne.symm n)]; exact e
/-- the whole of a bag's take -/
theorem mem_cut {xs : List D} {d : D} {lo hi : Option Int} (h : d ∈ cutD xs lo hi) : d ∈ xs := List.mem_of_mem_drop (List.mem_of_mem_take h)
theorem cut_len {xs : List D} {lo hi : Option Int} : (cutD xs lo hi).length ≤ xs.length := by
  unfold cutD
  rw [List.length_take, List.length_drop]; omega
theorem cells_first {cells : List Int} {n : Int} (h : ∀ c, c ∈ cells → 0 ≤ c) : ∃ c : Int, 0 ≤ c ∧ (cutD (cells.map .int) (some n) none ++ [D.int 0])[0]? = some (.int c) := by
  cases e : cutD (cells.map .int) (some n) none with
  | nil => exact ⟨0, by omega, rfl⟩
  | cons d ds =>
    have hm : d ∈ cells.map D.int := mem_cut (lo := some n) (hi := none) (by rw [e]; simp)
    obtain ⟨c, hc, rfl⟩ := List.mem_map.mp hm
    exact ⟨c, h c hc, rfl⟩
theorem cmul_r {a b : Int} (h : -(2 ^ 64) < b ∧ b < 2 ^ 64) : CMul a b := .inr h
theorem cmul_l {a b : Int} (h : -(2 ^ 64) < a ∧ a < 2 ^ 64) : CMul a b := .inl h
end Fe
namespace Fe
open PySem PySem.Spec PyProof.Rows L2
theorem wp_seqN {g h : Fs} {r : DEnv} {st : Sto} {Q : Out → Sto → Prop} (P : DEnv → Sto → Prop) (h1 : Wp (g r) st fun o s => ∃ r1, o = .nx r1 ∧ P r1 s) (h2 : ∀ r1 s, P r1 s → Wp (h r1) s Q) : Wp (sSeq g h r) st Q := by
  rw [wp_seq]
  refine h1.mono fun o s ⟨r1, e, p⟩ => ?_
  subst e
  exact h2 r1 s p
/-! ## the taker: one draw -/
def tk1 : Fs := sAsg (eBin gIx (eBin gAdd (eSl gSl (eBin gIx (eVar 0) (eC (.int 3))) (oSome (eBin gIx (eVar 0) (eC (.int 2)))) oNone) (eLst (aCons (eC (.int 0)) aNil))) (eC (.int 0))) (gtName 4)
def tk2 : Fs := sAugS (eVar 0) (eC (.int 2)) (eC (.int 1)) gGetL gAddI gSetL
def tk3 : Fs := sIf (asB (eBin gGe (eVar 4) (eBin gPow (eC (.int 10)) (eC (.int 18))))) (sAsg (eVar 4) (gtSub (eVar 0) (eC (.int 0)) gSetL)) sNil
def tk4 : Fs := sAsg (eBin gAdd (eBin gAdd (eBin gMul (eBin gIx (eVar 0) (eC (.int 1))) (eC (.int 48271))) (eBin gMod (eCall gInt (aCons (eVar 4) aNil)) (eC (.int 2147483647)))) (eBin gMul (eC (.int 7919)) (eBin gIx (eVar 0) (eC (.int 2))))) (gtName 5)
def tk5 : Fs := sAsg (eBin gMod (eCall gInt (aCons (eVar 5) aNil)) (eC (.int 2147483647))) (gtSub (eVar 0) (eC (.int 1)) gSetL)
def tkR : Fs := (sSeq (sIf (asB (eBin gGt (eBin gIx (eVar 0) (eC (.int 0))) (eC (.int 0)))) (sSeq (sAsg (eBin gMod (eCall gInt (aCons (eBin gIx (eVar 0) (eC (.int 0))) aNil)) (eVar 1)) (gtName 6))
    (sSeq (sAsg (eBin gDiv (eCall gInt (aCons (eBin gIx (eVar 0) (eC (.int 0))) aNil)) (eVar 1)) (gtSub (eVar 0) (eC (.int 0)) gSetL))
    (sRet (eVar 6)))) sNil)
    (sSeq (sAsg (eBin gMod (eCall gInt (aCons (eBin gMul (eBin gAdd (eBin gIx (eVar 0) (eC (.int 1))) (eC (.int 1))) (eC (.int 39373))) aNil)) (eC (.int 1000000007))) (gtName 2))
    (sSeq (sAsg (eBin gMod (eCall gInt (aCons (eBin gMul (eBin gMod (eCall gInt (aCons (eBin gMul (eVar 2) (eVar 2)) aNil)) (eC (.int 998244353))) (eC (.int 30011))) aNil)) (eC (.int 998244353))) (gtName 3))
    (sRet (eBin gMod (eCall gInt (aCons (eBin gDiv (eVar 3) (eC (.int 7))) aNil)) (eVar 1))))))
def m_take : Fd := runB 7 (sSeq (sIf (asB (eBin gEqA (eBin gIx (eVar 0) (eC (.int 0))) (eC (.int 0)))) (sSeq tk1 (sSeq tk2 (sSeq tk3 (sSeq tk4 tk5)))) sNil) tkR)
abbrev bagL (a s n : Int) (l3 l4 : Nat) : List D := [.int a, .int s, .int n, .loc l3, .loc l4]
theorem tkR_ok {st : Sto} {b : Nat} {many : Int} (h0 : 0 < many) (h1 : many < 1073741824) {s : Sto} {x y : Option D} (B : Bag s b) (G : Grow b st s) :
    Wp (tkR [some (.loc b), some (.int many), none, none, x, y, none]) s fun o s => ∃ i : Int, o = .rt (.int i) ∧ 0 ≤ i ∧ i < many ∧ Bag s b ∧ Grow b st s := by
  obtain ⟨a, sd, n, l3, l4, cells, hb, h3, ha, hs, hn, hc, hne, hl⟩ := B
  unfold tkR
  simp only [wp_seq, wp_sIf, wp_asB, wp_bin, wp_var, wp_c, List.getElem?_cons_zero, List.getElem?_cons_succ, Option.some.injEq, exists_eq_left', wp_ixL hb (show L2.atI (bagL a sd n l3 l4) 0 = some (.int a) from rfl), wp_gtI, D.bl.injEq]
  split
  · rename_i hp
    simp only [wp_seq, wp_sAsg, wp_bin, wp_call, wp_cons, wp_nil, wp_var, wp_c, List.getElem?_cons_zero, List.getElem?_cons_succ, Option.some.injEq, exists_eq_left', wp_ixL hb (show L2.atI (bagL a sd n l3 l4) 0 = some (.int a) from rfl), wp_intI, wp_modI h0, wp_gtName, List.set, wp_divI (show CDiv a many from ⟨h0, h1⟩), wp_gtSub, wp_setL hb (show 0 ≤ (0 : Int) ∧ (0 : Int) < ((bagL a sd n l3 l4).length : Int) from ⟨by omega, by simp⟩), wp_sRet]
    refine ⟨_, rfl, Int.emod_nonneg _ (by omega), Int.emod_lt_of_pos _ h0, ?_, G.trans .put⟩
    exact ⟨a / many, sd, n, l3, l4, cells, get_put hb, get_off (Nat.ne_of_lt hne) h3, Int.ediv_nonneg ha (by omega), hs, hn, hc, hne, hl⟩
  · have hm1 : ∀ z : Int, CMul z 39373 := fun z => cmul_r (by decide)
    have hm2 : ∀ z : Int, CMul z 30011 := fun z => cmul_r (by decide)
    have hm3 : ∀ z : Int, CMul (z % 1000000007) (z % 1000000007) := fun z => cmul_r ⟨by have := Int.emod_nonneg z (by decide : (1000000007 : Int) ≠ 0); omega, by have := Int.emod_lt_of_pos z (by decide : (0 : Int) < 1000000007); omega⟩
    simp only [wp_sNil, wp_seq, wp_sAsg, wp_bin, wp_call, wp_cons, wp_nil, wp_var, wp_c, List.getElem?_cons_zero, List.getElem?_cons_succ, Option.some.injEq, exists_eq_left', wp_ixL hb (show L2.atI (bagL a sd n l3 l4) 1 = some (.int sd) from rfl), wp_intI, wp_addI, wp_mulI (hm1 _), wp_mulI (hm2 _), wp_mulI (hm3 _), wp_modI h0, wp_modI (show (0 : Int) < 1000000007 by decide), wp_modI (show (0 : Int) < 998244353 by decide), wp_gtName, List.set, wp_divI (show CDiv _ 7 from ⟨by decide, by decide⟩), wp_sRet]
    exact ⟨_, rfl, Int.emod_nonneg _ (by omega), Int.emod_lt_of_pos _ h0, ⟨a, sd, n, l3, l4, cells, hb, h3, ha, hs, hn, hc, hne, hl⟩, G⟩
theorem take_ok {st : Sto} {b : Nat} {many : Int} (B : Bag st b) (h0 : 0 < many) (h1 : many < 1073741824) : Wp (m_take [.loc b, .int many]) st fun d s => ∃ i : Int, d = .int i ∧ 0 ≤ i ∧ i < many ∧ Bag s b ∧ Grow b st s := by
  unfold m_take
  rw [wp_runB]
  show Wp (sSeq _ _ [some (.loc b), some (.int many), none, none, none, none, none]) st _
  have fin : ∀ {f : Fs} {r : DEnv} {s : Sto}, Wp (f r) s (fun o s => ∃ i : Int, o = .rt (.int i) ∧ 0 ≤ i ∧ i < many ∧ Bag s b ∧ Grow b st s) → Wp (f r) s fun o s => match o with
    | .nx _ => (fun (d : D) s => ∃ i : Int, d = .int i ∧ 0 ≤ i ∧ i < many ∧ Bag s b ∧ Grow b st s) .non s
    | .rt d => (fun (d : D) s => ∃ i : Int, d = .int i ∧ 0 ≤ i ∧ i < many ∧ Bag s b ∧ Grow b st s) d s
    | _ => False := fun h => h.mono fun o s ⟨i, e, z⟩ => by subst e; exact ⟨i, rfl, z⟩
  refine fin ?_
  refine wp_seqN (fun r s => ∃ x y, r = [some (.loc b), some (.int many), none, none, x, y, none] ∧ Bag s b ∧ Grow b st s) ?_ (fun r s ⟨x, y, e, B', G⟩ => by subst e; exact tkR_ok h0 h1 B' G)
  have B0 := B
  obtain ⟨a, sd, n, l3, l4, cells, hb, h3, ha, hs, hn, hc, hne, hl⟩ := B
  rw [wp_sIf]
  simp only [wp_asB, wp_bin, wp_var, wp_c, List.getElem?_cons_zero, List.getElem?_cons_succ, Option.some.injEq, exists_eq_left', wp_ixL hb (show L2.atI (bagL a sd n l3 l4) 0 = some (.int a) from rfl), wp_eqI, D.bl.injEq]
  split
  · refine wp_seqN (fun r s => ∃ c : Int, 0 ≤ c ∧ r = [some (.loc b), some (.int many), none, none, some (.int c), none, none] ∧ s[b]? = some (.lst (bagL a sd n l3 l4)) ∧ s[l3]? = some (.lst (cells.map .int)) ∧ Grow b st s) ?_ ?_
    · obtain ⟨c, hc0, hc1⟩ := cells_first (n := n) hc
      have c3 := get_end (st := st) (c := .lst (cutD (cells.map .int) (some n) none))
      generalize hcut : cutD (cells.map D.int) (some n) none = cut at hc1 c3
      have cl : cut.length ≤ 63 := by rw [← hcut]; exact Nat.le_trans cut_len (by simpa using hl)
      have gbig : cut.length + [D.int 0].length ≤ sizeLine := by show cut.length + 1 ≤ sizeLine; exact Nat.le_trans (by omega) (by decide : 64 ≤ sizeLine)
      have g1 : ([D.int 0] : List D).length ≤ sizeLine := by show 1 ≤ sizeLine; decide
      have k2 := get_app (ys := [Cell.lst [D.int 0]]) c3
      have k2' := get_end (st := st ++ [Cell.lst cut]) (c := .lst [D.int 0])
      have k3 := get_end (st := st ++ [Cell.lst cut] ++ [Cell.lst [D.int 0]]) (c := .lst (cut ++ [D.int 0]))
      unfold tk1
      simp only [wp_sAsg, wp_bin, wp_sl, wp_oSome, wp_oNone, wp_lst, wp_cons, wp_nil, wp_var, wp_c, List.getElem?_cons_zero, List.getElem?_cons_succ, Option.some.injEq, exists_eq_left', D.int.injEq,
        wp_ixL hb (show L2.atI (bagL a sd n l3 l4) 3 = some (.loc l3) from rfl), wp_ixL hb (show L2.atI (bagL a sd n l3 l4) 2 = some (.int n) from rfl), wp_slL h3, hcut, wp_addL k2 k2' gbig, wp_gtName, List.set]
      refine ⟨g1, ?_⟩
      rw [wp_ixL k3 (show L2.atI _ 0 = _ from atI_nat (k := 0) hc1)]
      exact ⟨_, rfl, c, hc0, rfl, get_app (get_app (get_app hb)), get_app (get_app (get_app h3)), Grow.app' (Grow.app' .app)⟩
    rintro r s ⟨c, hc0, rfl, b3, c3, G3⟩
    refine wp_seqN (fun r s => r = [some (.loc b), some (.int many), none, none, some (.int c), none, none] ∧ s[b]? = some (.lst (bagL a sd (n + 1) l3 l4)) ∧ s[l3]? = some (.lst (cells.map .int)) ∧ Grow b st s) ?_ ?_
    · unfold tk2
      simp only [wp_augS, wp_var, wp_c, List.getElem?_cons_zero, List.getElem?_cons_succ, Option.some.injEq, exists_eq_left', wp_getL b3 (show (0 : Int) ≤ 2 by decide) (show (bagL a sd n l3 l4)[(2 : Int).toNat]? = some (.int n) from rfl), wp_addI2,
        wp_setL b3 (show 0 ≤ (2 : Int) ∧ (2 : Int) < ((bagL a sd n l3 l4).length : Int) from ⟨by omega, by simp⟩)]
      exact ⟨_, rfl, rfl, get_put b3, get_off (Nat.ne_of_lt hne) c3, G3.trans .put⟩
    rintro r s ⟨rfl, b4, c4, G4⟩
    refine wp_seqN (fun r s => r = [some (.loc b), some (.int many), none, none, some (.int c), none, none] ∧ ∃ a' : Int, 0 ≤ a' ∧ s[b]? = some (.lst (bagL a' sd (n + 1) l3 l4)) ∧ s[l3]? = some (.lst (cells.map .int)) ∧ Grow b st s) ?_ ?_
    · unfold tk3
      have hp18 : CPow 10 18 := ⟨by decide, by decide, by decide⟩
      simp only [wp_sIf, wp_asB, wp_bin, wp_var, wp_c, List.getElem?_cons_zero, List.getElem?_cons_succ, Option.some.injEq, exists_eq_left', wp_powI hp18, wp_geI, D.bl.injEq]
      split
      · simp only [wp_sAsg, wp_var, wp_c, wp_gtSub, List.getElem?_cons_zero, List.getElem?_cons_succ, Option.some.injEq, exists_eq_left', wp_setL b4 (show 0 ≤ (0 : Int) ∧ (0 : Int) < ((bagL a sd (n + 1) l3 l4).length : Int) from ⟨by omega, by simp⟩)]
        exact ⟨_, rfl, rfl, c, hc0, get_put b4, get_off (Nat.ne_of_lt hne) c4, G4.trans .put⟩
      · rw [wp_sNil]
        exact ⟨_, rfl, rfl, a, ha, b4, c4, G4⟩
    rintro r s ⟨rfl, a', ha', b5, c5, G5⟩
    refine wp_seqN (fun r s => ∃ y : Int, r = [some (.loc b), some (.int many), none, none, some (.int c), some (.int y), none] ∧ s[b]? = some (.lst (bagL a' sd (n + 1) l3 l4)) ∧ s[l3]? = some (.lst (cells.map .int)) ∧ Grow b st s) ?_ ?_
    · unfold tk4
      simp only [wp_sAsg, wp_bin, wp_call, wp_cons, wp_nil, wp_var, wp_c, List.getElem?_cons_zero, List.getElem?_cons_succ, Option.some.injEq, exists_eq_left', wp_ixL b5 (show L2.atI (bagL a' sd (n + 1) l3 l4) 1 = some (.int sd) from rfl), wp_ixL b5 (show L2.atI (bagL a' sd (n + 1) l3 l4) 2 = some (.int (n + 1)) from rfl), wp_intI, wp_addI,
        wp_mulI (show CMul sd 48271 from cmul_r (by decide)), wp_mulI (show CMul 7919 (n + 1) from cmul_l (by decide)), wp_modI (show (0 : Int) < 2147483647 by decide), wp_gtName, List.set]
      exact ⟨_, rfl, _, rfl, b5, c5, G5⟩
    rintro r s ⟨y, rfl, b6, c6, G6⟩
    unfold tk5
    simp only [wp_sAsg, wp_bin, wp_call, wp_cons, wp_nil, wp_var, wp_c, List.getElem?_cons_zero, List.getElem?_cons_succ, Option.some.injEq, exists_eq_left', wp_intI, wp_modI (show (0 : Int) < 2147483647 by decide), wp_gtSub, wp_setL b6 (show 0 ≤ (1 : Int) ∧ (1 : Int) < ((bagL a' sd (n + 1) l3 l4).length : Int) from ⟨by omega, by simp⟩)]
    exact ⟨_, rfl, _, _, rfl, ⟨a', _, n + 1, l3, l4, cells, get_put b6, get_off (Nat.ne_of_lt hne) c6, ha', Int.emod_nonneg _ (by decide), by omega, hc, hne, hl⟩, G6.trans .put⟩
  · rw [wp_sNil]
    exact ⟨_, rfl, none, none, rfl, B0, .refl⟩
end Fe
namespace Fe
open PySem PySem.Spec PyProof.Rows L2
theorem seq_grow {b : Nat} {st s : Sto} {d : D} {xs : List D} (G : Grow b st s) (n : d ≠ .loc b) (h : seqOf st d = some xs) : seqOf s d = some xs := by
  cases d with
  | loc l =>
    have nl : l ≠ b := fun e => n (by rw [e])
    simp only [seqOf] at h ⊢
    split at h
    · rename_i ys e; rw [G.get nl e]; exact h
    · cases h
  | _ => exact h
theorem wp_lenQ {st : Sto} {d : D} {xs : List D} {Q} (h : seqOf st d = some xs) : Wp (gLen [d]) st Q ↔ Q (.int xs.length) st := by
  refine wp_run ?_
  cases d with
  | str z => cases h
  | _ => simp only [gLen, h, Option.map_some]
theorem wp_ixQ {st : Sto} {d e : D} {xs : List D} {i : Int} {Q} (h : seqOf st d = some xs) (h2 : L2.atI xs i = some e) : Wp (gIx d (.int i)) st Q ↔ Q e st := by
  refine wp_run ?_
  cases d with
  | str z => cases h
  | _ => simp only [gIx, h, Option.bind_some, h2, Option.map_some]
theorem atI_in {xs : List D} {i : Int} (h0 : 0 ≤ i) (h1 : i < xs.length) : ∃ d, L2.atI xs i = some d ∧ d ∈ xs := by
  have hl : i.toNat < xs.length := by omega
  refine ⟨xs[i.toNat], ?_, List.getElem_mem hl⟩
  have := atI_nat (xs := xs) (k := i.toNat) (d := xs[i.toNat]) (List.getElem?_eq_getElem hl)
  rwa [Int.toNat_of_nonneg h0] at this
/-! ## one of some -/
def m_some : Fd := runB 2 (sRet (eBin gIx (eVar 1) (eCall m_take (aCons (eVar 0) (aCons (eCall gLen (aCons (eVar 1) aNil)) aNil)))))
theorem some_ok {st : Sto} {b : Nat} {things : D} {xs : List D} (B : Bag st b) (hs : seqOf st things = some xs) (off : things ≠ .loc b) (h0 : xs ≠ []) (h1 : xs.length ≤ 1000000) : Wp (m_some [.loc b, things]) st fun d s => d ∈ xs ∧ Bag s b ∧ Grow b st s := by
  unfold m_some
  rw [wp_runB]
  show Wp (sRet _ [some (.loc b), some things]) st _
  rw [wp_sRet, wp_bin]
  simp only [wp_var, wp_call, wp_cons, wp_nil, List.getElem?_cons_zero, List.getElem?_cons_succ, Option.some.injEq, exists_eq_left', wp_lenQ hs]
  have hp : 0 < xs.length := List.length_pos_iff.mpr h0
  refine (take_ok B (many := (xs.length : Int)) (by omega) (by omega)).mono fun d s ⟨i, e, i0, i1, B', G⟩ => ?_
  subst e
  obtain ⟨d, hd, hm⟩ := atI_in i0 i1
  rw [wp_ixQ (seq_grow G off hs) hd]
  exact ⟨hm, B', G⟩
/-! ## mixed -/
def b_mixed : Fs := (sExpr (eMethL gInsert (eVar 2) (aCons (eCall m_take (aCons (eVar 0) (aCons (eBin gAdd (eCall gLen (aCons (eVar 2) aNil)) (eC (.int 1))) aNil))) (aCons (eVar 3) aNil))))
def m_mixed : Fd := runB 4 ((sSeq (sAsg (eLst aNil) (gtName 2))
    (sSeq (sFor (iSeq (eVar 1)) (gtName 3) b_mixed)
    (sRet (eVar 2)))))
/-- what a sequence gives to a for loop that leaves it alone -/
theorem wp_iter {f : Fx} {r : DEnv} {st : Sto} {Q : List D × (Sto → Bool) → Sto → Prop} : Wp (iSeq f r) st Q ↔ Wp (f r) st fun d s => Wp (fun st => match d with
  | .tup xs => some ((xs, okAll), st)
  | .ptp xs => some ((xs, okAll), st)
  | .rol xs => some ((xs, okAll), st)
  | .loc l => match st[l]? with
    | some (.lst xs) => some ((xs, okLst l xs), st)
    | _ => none
  | .str z => some ((z.cps.toList.map fun c => .str ⟨#[c]⟩, okAll), st)
  | _ => none) s Q := by
  unfold iSeq; exact wp_bnd
def okOf : D → List D → Sto → Bool
  | .loc l, xs => okLst l xs
  | _, _ => okAll
theorem wp_iterQ {f : Fx} {r : DEnv} {st : Sto} {Q : List D × (Sto → Bool) → Sto → Prop} {d : D} {xs : List D} (hs : seqOf st d = some xs) (hf : f r st = some (d, st)) : Wp (iSeq f r) st Q ↔ Q (xs, okOf d xs) st := by
  rw [wp_iter, wp_run hf]
  cases d with
  | loc l =>
    simp only [seqOf] at hs
    split at hs
    · rename_i ys e
      cases hs
      exact wp_run (by simp only [e]; rfl)
    · cases hs
  | tup ys => cases hs; exact wp_run rfl
  | ptp ys => cases hs; exact wp_run rfl
  | rol ys => cases hs; exact wp_run rfl
  | _ => cases hs
theorem ok_of {d : D} {xs : List D} {s : Sto} (h : seqOf s d = some xs) : okOf d xs s = true := by
  cases d with
  | loc l =>
    simp only [seqOf] at h
    split at h
    · rename_i ys e
      cases h
      simp only [okOf, okLst, e]
      exact D.sameL_refl _
    · cases h
  | _ => rfl
theorem mixed_ok {st : Sto} {b : Nat} {things : D} {xs : List D} (B : Bag st b) (hs : seqOf st things = some xs) (off : things ≠ .loc b) (h1 : xs.length ≤ 1000000) :
    Wp (m_mixed [.loc b, things]) st fun d s => ∃ l ys, d = .loc l ∧ st.length ≤ l ∧ s[l]? = some (.lst ys) ∧ ys.Perm xs ∧ Bag s b ∧ Grow b st s := by
  have g0 : ([] : List D).length ≤ sizeLine := Nat.zero_le _
  have hsz : 1000001 ≤ sizeLine := by decide
  have bl := B.lt
  have inlen : ∀ {l : Nat}, things = .loc l → l < st.length := fun e => by
    subst e
    simp only [seqOf] at hs
    split at hs
    · rename_i ys e; exact (List.getElem?_eq_some_iff.mp e).1
    · cases hs
  unfold m_mixed
  rw [wp_runB]
  show Wp (sSeq _ _ [some (.loc b), some things, none, none]) st _
  rw [wp_seq, wp_sAsg]
  simp only [wp_lst, wp_nil, wp_gtName]
  refine ⟨g0, ?_⟩
  show Wp (sSeq _ _ [some (.loc b), some things, some (.loc st.length), none]) _ _
  have G1 : Grow b st (st ++ [Cell.lst []]) := .app
  have hs1 := seq_grow G1 off hs
  rw [wp_seq, wp_for, wp_iterQ (d := things) (xs := xs) hs1 (by rfl)]
  refine wp_forF (fun ds r s => ∃ dn ys x, dn ++ ds = xs ∧ r = [some (.loc b), some things, some (.loc st.length), x] ∧ s[st.length]? = some (.lst ys) ∧ ys.Perm dn ∧ Bag s b ∧ Grow b st s) ?_ ?_ xs _ _ _ ⟨[], [], none, rfl, rfl, get_end, .refl _, B.app, G1⟩ ?_
  · rintro ds r s ⟨dn, ys, x, _, _, _, _, _, G⟩
    exact ok_of (seq_grow G off hs)
  · rintro d ds r s ⟨dn, ys, x, e, rfl, hl, hp, B', G⟩
    rw [wp_gtName]
    show Wp (b_mixed [some (.loc b), some things, some (.loc st.length), some d]) s _
    unfold b_mixed
    have hlen : ys.length = dn.length := hp.length_eq
    have hdn : dn.length + ds.length + 1 = xs.length := by rw [← e, List.length_append, List.length_cons]; omega
    rw [wp_sExpr, wp_methL]
    simp only [wp_var, wp_call, wp_cons, wp_nil, wp_bin, wp_c, List.getElem?_cons_zero, List.getElem?_cons_succ, Option.some.injEq, exists_eq_left', wp_lenL hl, wp_addI]
    refine ⟨⟨_, _, rfl, hl⟩, (take_ok B' (many := (ys.length : Int) + 1) (by omega) (by omega)).mono fun t s2 ⟨i, e2, i0, i1, B2, G2⟩ => ?_⟩
    subst e2
    have hl2 := G2.get (by omega) hl
    have run : gInsert (.loc st.length) [.int i, d] s2 = some (.non, s2.set st.length (.lst (ys.take i.toNat ++ [d] ++ ys.drop i.toNat))) := by
      simp only [gInsert, hl2]
      rw [if_pos ⟨by omega, i0, by omega⟩]
    rw [wp_run run]
    refine ⟨_, .inl rfl, dn ++ [d], _, _, by rw [List.append_assoc]; exact e, rfl, get_put hl2, ?_, ?_, ?_⟩
    · refine List.Perm.trans ?_ ((hp.append_right [d]))
      have e3 : ys ++ [d] = ys.take i.toNat ++ (ys.drop i.toNat ++ [d]) := by rw [← List.append_assoc, List.take_append_drop]
      rw [e3, List.append_assoc]
      exact List.Perm.append_left _ List.perm_append_comm
    · obtain ⟨a, sd, n, l3, l4, cells, hb, h3, z⟩ := B2
      have n3 : l3 ≠ st.length := by have := z.2.2.2.2.1; omega
      exact ⟨a, sd, n, l3, l4, cells, get_off (by omega) hb, get_off n3 h3, z⟩
    · have := (G.trans G2)
      exact ⟨by rw [List.length_set]; exact this.1, fun l nl lt => by rw [List.getElem?_set_ne (by omega)]; exact this.2 l nl lt⟩
  · rintro r s ⟨dn, ys, x, e, rfl, hl, hp, B', G⟩
    rw [List.append_nil] at e
    subst e
    simp only
    rw [wp_sRet]
    simp only [wp_var, List.getElem?_cons_zero, List.getElem?_cons_succ, Option.some.injEq, exists_eq_left']
    exact ⟨_, ys, rfl, Nat.le_refl _, hl, hp, B', G⟩
/-! ## alike -/
def m_alike : Fd := runB 2 (sRet (eAnd (eBin gEqA (eVar 0) (eVar 1)) (eBin gEqA (eCall gRepr (aCons (eVar 0) aNil)) (eCall gRepr (aCons (eVar 1) aNil)))))
theorem shaped_str {x : Str} (h : PyData.strOk x = true) : SeqAt.shaped (.str x) = true := by
  unfold SeqAt.shaped PyData.canLay0 PyData.depth
  simp [h]
theorem wp_eqS {st : Sto} {x y : Str} {Q} (hx : PyData.strOk x = true) (hy : PyData.strOk y = true) : Wp (gEqA (.str x) (.str y)) st Q ↔ Q (.bl (x == y)) st := by
  refine wp_run ?_
  unfold gEqA or2 gEq
  simp only [toPy, shaped_str hx, shaped_str hy, Bool.and_self, if_true, PyData.eqv]
  rfl
theorem wp_neS {st : Sto} {x y : Str} {Q} (hx : PyData.strOk x = true) (hy : PyData.strOk y = true) : Wp (gNeA (.str x) (.str y)) st Q ↔ Q (.bl (!(x == y))) st := by
  refine wp_run ?_
  unfold gNeA or2 gEq
  simp only [toPy, shaped_str hx, shaped_str hy, Bool.and_self, if_true, PyData.eqv]
theorem wp_eqP {st : Sto} {x y : D} {p q : PyData} {Q} (hx : toPy st 70 x = some p) (hy : toPy st 70 y = some q) (h1 : SeqAt.shaped p = true) (h2 : SeqAt.shaped q = true) : Wp (gEqA x y) st Q ↔ Q (.bl (PyData.eqv p q)) st := by
  refine wp_run ?_
  unfold gEqA or2 gEq
  simp only [hx, hy, h1, h2, Bool.and_self, if_true]
  rfl
theorem alike_ok {st : Sto} {x y : D} {p : PyData} (hx : toPy st 70 x = some p) (hy : toPy st 70 y = some p) (h1 : SeqAt.shaped p = true) (h2 : shows p = true) (h3 : PyData.strOk p.shown = true) : Wp (m_alike [x, y]) st fun d s => d = .bl true ∧ s = st := by
  unfold m_alike
  rw [wp_runB]
  show Wp (sRet _ [some x, some y]) st _
  have r1 : gRepr [x] st = some (.str p.shown, st) := by simp only [gRepr, hx, h2, if_true]
  have r2 : gRepr [y] st = some (.str p.shown, st) := by simp only [gRepr, hy, h2, if_true]
  rw [wp_sRet, wp_and]
  simp only [wp_bin, wp_var, wp_call, wp_cons, wp_nil, List.getElem?_cons_zero, List.getElem?_cons_succ, Option.some.injEq, exists_eq_left', wp_eqP hx hy h1 h1, D.bl.injEq, SeqAt.eqv_refl p (SeqAt.canLay_of_shaped h1), if_true, wp_run r1, wp_run r2, wp_eqS h3 h3]
  simp
end Fe
namespace Fe
open PySem PySem.Spec PyProof.Rows L2
/-! ## how long a thing's repr may be -/
def As (x : Str) : Prop := ∀ c, c ∈ x.cps.toList → c < 128
def asB' (x : Str) : Bool := x.cps.toList.all (fun c => decide (c < 128))
theorem as_of {x : Str} (h : asB' x = true) : As x := fun c hc => of_decide_eq_true (List.all_eq_true.mp h c hc)
theorem as_app {x y : Str} (hx : As x) (hy : As y) : As (x ++ y) := fun c hc => by
  have e : (x ++ y).cps.toList = x.cps.toList ++ y.cps.toList := Array.toList_append
  rw [e] at hc
  rcases List.mem_append.mp hc with h | h
  · exact hx c h
  · exact hy c h
theorem as_ok {x : Str} (h : As x) : PyData.strOk x = true := by
  unfold PyData.strOk
  rw [← Array.all_toList, List.all_eq_true]
  intro c hc
  exact decide_eq_true (Nat.lt_trans (h c hc) (by decide))
theorem char_as : ∀ c, c < 128 → ((PySem.Builtin.Str.reprChar 39 c).all (fun d => decide (d < 128)) && (PySem.Builtin.Str.reprChar 34 c).all (fun d => decide (d < 128))) = true := by decide +kernel
theorem quote_is (x : Str) : reprQuote x = 39 ∨ reprQuote x = 34 := by
  unfold reprQuote; split
  · exact .inr rfl
  · exact .inl rfl
theorem fold_as (q : Nat) (hq : q = 39 ∨ q = 34) : ∀ (l : List Nat) (acc : Array Nat), (∀ c, c ∈ acc.toList → c < 128) → (∀ c, c ∈ l → c < 128) → ∀ c, c ∈ (l.foldl (fun out c => out ++ (PySem.Builtin.Str.reprChar q c).toArray) acc).toList → c < 128
  | [], acc, h, _, c, hc => h c hc
  | d :: l, acc, h, hl, c, hc => by
    refine fold_as q hq l _ (fun e he => ?_) (fun e he => hl e (by simp [he])) c hc
    rw [Array.toList_append] at he
    rcases List.mem_append.mp he with h' | h'
    · exact h e h'
    · have := char_as d (hl d (by simp))
      simp only [Bool.and_eq_true, List.all_eq_true] at this
      rcases hq with q' | q' <;> subst q'
      · exact of_decide_eq_true (this.1 e h')
      · exact of_decide_eq_true (this.2 e h')
theorem repr_as {x : Str} (h : As x) : As (reprText x) := by
  intro c hc
  unfold reprText at hc
  rw [Array.toList_push, ← Array.foldl_toList] at hc
  have q128 : reprQuote x < 128 := by rcases quote_is x with e | e <;> rw [e] <;> decide
  rcases List.mem_append.mp hc with h' | h'
  · exact fold_as _ (quote_is x) _ _ (fun d hd => by rw [List.mem_singleton.mp hd]; exact q128) h c h'
  · rw [List.mem_singleton.mp h']; exact q128
theorem repr_len {x : Str} (h : As x) : (reprText x).length ≤ 10 * x.length + 2 := StrLaws.reprText_len x fun c hc => Nat.lt_trans (h c hc) (by decide)
def intOk (i : Int) : Bool := decide (i.natAbs.log2 < 1920) && asB' (toString i : String) && decide ((toString i : Str).length ≤ 50)
mutual
def asc : PyData → Bool
  | .none | .bool _ => true
  | .int i => intOk i
  | .str x => asB' x
  | .list xs | .tuple xs => ascAll xs
  | .dict kvs => ascKv kvs
def ascAll : List PyData → Bool
  | [] => true
  | x :: xs => asc x && ascAll xs
def ascKv : List (PyData × PyData) → Bool
  | [] => true
  | (k, v) :: r => asc k && asc v && ascKv r
end
mutual
def wt : PyData → Nat
  | .none | .bool _ => 5
  | .int _ => 50
  | .str x => 10 * x.length + 2
  | .list xs | .tuple xs => 3 + wtAll xs
  | .dict kvs => 3 + wtKv kvs
def wtAll : List PyData → Nat
  | [] => 0
  | x :: xs => wt x + 2 + wtAll xs
def wtKv : List (PyData × PyData) → Nat
  | [] => 0
  | (k, v) :: r => wt k + wt v + 4 + wtKv r
end
theorem as_join : ∀ ts : List Str, (∀ t, t ∈ ts → As t) → As (Str.join ", " ts)
  | [], _ => as_of (by decide +kernel)
  | [x], h => h x (by simp)
  | x :: y :: r, h => as_app (as_app (h x (by simp)) (as_of (by decide +kernel))) (as_join (y :: r) fun t ht => h t (by simp at ht ⊢; exact .inr ht))
theorem as_from : ∀ (ts : List Str) (k : Nat) (acc : Str), As acc → (∀ t, t ∈ ts → As t) → As (textFrom k acc ts)
  | [], _, acc, h, _ => h
  | t :: ts, k, acc, h, ht => by
    refine as_from ts (k + 1) _ (as_app (as_app h ?_) (ht t (by simp))) fun u hu => ht u (by simp [hu])
    split
    · exact as_of (by decide +kernel)
    · exact as_of (by decide +kernel)
theorem piled_sum : ∀ ts : List Str, piled ts = (ts.map (·.length)).sum + 2 * ts.length
  | [] => rfl
  | t :: ts => by
    have ih := piled_sum ts
    simp only [piled_cons, ih, List.map_cons, List.sum_cons, List.length_cons]
    omega
theorem len_list (ts : List Str) : (listText ts).length ≤ 3 + piled ts := by
  have := listText_len_le ts
  rw [piled_sum]; omega
theorem len_tup (ts : List Str) : (tupleText ts).length ≤ 3 + piled ts := by
  have := tupleText_len_le ts
  rw [piled_sum]; omega
theorem len_dict (ts : List Str) : (dictText ts).length ≤ 3 + piled ts := by
  have := dictText_len_le ts
  rw [piled_sum]; omega
mutual
theorem shown_as : ∀ p : PyData, asc p = true → As p.shown ∧ p.shown.length ≤ wt p ∧ p.showable = true
  | .none, _ => ⟨as_of (by decide +kernel), by decide +kernel, by simp [PyData.showable]⟩
  | .bool b, _ => by cases b <;> exact ⟨as_of (by decide +kernel), by decide +kernel, by simp [PyData.showable]⟩
  | .int i, h => by
    simp only [asc, intOk, Bool.and_eq_true, decide_eq_true_eq] at h
    refine ⟨by simp only [PyData.shown]; exact as_of h.1.2, by simp only [PyData.shown, wt]; exact h.2, by simp only [PyData.showable]; exact decide_eq_true h.1.1⟩
  | .str x, h => by
    simp only [asc] at h
    exact ⟨by simp only [PyData.shown]; exact repr_as (as_of h), by simp only [PyData.shown, wt]; exact repr_len (as_of h), by simp [PyData.showable]⟩
  | .list xs, h => by
    simp only [asc] at h
    obtain ⟨h1, h2, h3⟩ := shown_asAll xs h
    refine ⟨by simp only [PyData.shown]; exact as_app (as_from _ _ _ (as_of (by decide +kernel)) h1) (as_of (by decide +kernel)), ?_, by simp only [PyData.showable]; exact h3⟩
    simp only [PyData.shown, wt]
    exact Nat.le_trans (len_list _) (by omega)
  | .tuple xs, h => by
    simp only [asc] at h
    obtain ⟨h1, h2, h3⟩ := shown_asAll xs h
    refine ⟨?_, ?_, by simp only [PyData.showable]; exact h3⟩
    · simp only [PyData.shown]
      refine as_app (as_app (as_of (by decide +kernel)) (as_join _ h1)) ?_
      split <;> exact as_of (by decide +kernel)
    · simp only [PyData.shown, wt]
      exact Nat.le_trans (len_tup _) (by omega)
  | .dict kvs, h => by
    simp only [asc] at h
    obtain ⟨h1, h2, h3⟩ := shown_asKv kvs h
    refine ⟨?_, ?_, by simp only [PyData.showable]; exact h3⟩
    · simp only [PyData.shown]
      exact as_app (as_app (as_of (by decide +kernel)) (as_join _ h1)) (as_of (by decide +kernel))
    · simp only [PyData.shown, wt]
      exact Nat.le_trans (len_dict _) (by omega)
theorem shown_asAll : ∀ ps : List PyData, ascAll ps = true → (∀ t, t ∈ PyData.shownAll ps → As t) ∧ piled (PyData.shownAll ps) ≤ wtAll ps ∧ PyData.showableAll ps = true
  | [], _ => ⟨by simp [PyData.shownAll], by simp [PyData.shownAll, piled, wtAll], by simp [PyData.showableAll]⟩
  | x :: xs, h => by
    simp only [ascAll, Bool.and_eq_true] at h
    obtain ⟨a1, a2, a3⟩ := shown_as x h.1
    obtain ⟨b1, b2, b3⟩ := shown_asAll xs h.2
    refine ⟨fun t ht => ?_, ?_, ?_⟩
    · simp only [PyData.shownAll, List.mem_cons] at ht
      rcases ht with e | ht
      · rw [e]; exact a1
      · exact b1 t ht
    · simp only [PyData.shownAll, piled_cons, wtAll]; omega
    · simp only [PyData.showableAll, a3, b3, Bool.and_self]
theorem shown_asKv : ∀ ps : List (PyData × PyData), ascKv ps = true → (∀ t, t ∈ PyData.shownKv ps → As t) ∧ piled (PyData.shownKv ps) ≤ wtKv ps ∧ PyData.showableKv ps = true
  | [], _ => ⟨by simp [PyData.shownKv], by simp [PyData.shownKv, piled, wtKv], by simp [PyData.showableKv]⟩
  | (k, v) :: xs, h => by
    simp only [ascKv, Bool.and_eq_true] at h
    obtain ⟨a1, a2, a3⟩ := shown_as k h.1.1
    obtain ⟨c1, c2, c3⟩ := shown_as v h.1.2
    obtain ⟨b1, b2, b3⟩ := shown_asKv xs h.2
    refine ⟨fun t ht => ?_, ?_, ?_⟩
    · simp only [PyData.shownKv, List.mem_cons] at ht
      rcases ht with e | ht
      · rw [e]; exact as_app (as_app a1 (as_of (by decide +kernel))) c1
      · exact b1 t ht
    · simp only [PyData.shownKv, piled_cons, wtKv, strLen_append]
      have e : ((": " : String) : Str).length = 2 := rfl
      omega
    · simp only [PyData.showableKv, a3, b3, c3, Bool.and_self]
end
end Fe
namespace Fe
open PySem PySem.Spec PyProof.Rows L2
/-! ## things that a store holds, the bag beside -/
def Hid (b : Nat) (st : Sto) : Sto := st.set b (.dtt [])
structure Sub (s s' : Sto) : Prop where
  lst : ∀ (l : Nat) (xs : List D), s[l]? = some (Cell.lst xs) → s'[l]? = some (Cell.lst xs)
  dct : ∀ (l : Nat) (xs : List (Key × D)), s[l]? = some (Cell.dct xs) → s'[l]? = some (Cell.dct xs)
theorem hid_at {b l : Nat} {st : Sto} {c : Cell} (h : (Hid b st)[l]? = some c) (hc : ∀ xs, c ≠ .dtt xs) : l ≠ b ∧ st[l]? = some c := by
  unfold Hid at h
  by_cases n : l = b
  · subst n
    by_cases hl : l < st.length
    · rw [List.getElem?_set_self hl] at h
      cases h
      exact absurd rfl (hc [])
    · rw [List.getElem?_eq_none (by rw [List.length_set]; omega)] at h; cases h
  · rw [List.getElem?_set_ne (Ne.symm n)] at h
    exact ⟨n, h⟩
theorem hid_of {b l : Nat} {st : Sto} {c : Cell} (n : l ≠ b) (h : st[l]? = some c) : (Hid b st)[l]? = some c := by
  unfold Hid
  rw [List.getElem?_set_ne (Ne.symm n)]; exact h
theorem Sub.hid {b : Nat} {st : Sto} : Sub (Hid b st) st := ⟨fun l xs h => (hid_at h (by simp)).2, fun l xs h => (hid_at h (by simp)).2⟩
theorem Grow.sub {b : Nat} {st s : Sto} (G : Grow b st s) : Sub (Hid b st) (Hid b s) :=
  ⟨fun l xs h => let ⟨n, e⟩ := hid_at h (by simp); hid_of n (G.get n e), fun l xs h => let ⟨n, e⟩ := hid_at h (by simp); hid_of n (G.get n e)⟩
theorem mapM_iff {α β : Type} {f : α → Option β} : ∀ {xs : List α} {ys : List β}, xs.mapM f = some ys ↔ Paired (fun x y => f x = some y) xs ys
  | [], ys => by
    constructor
    · intro h; have : ys = [] := by simpa using h
      subst this; exact .nil
    · intro h; cases h; rfl
  | x :: xs, ys => by
    constructor
    · intro h
      obtain ⟨y, zs, h1, h2, e⟩ := mapM_cons h
      subst e
      exact .cons h1 (mapM_iff.mp h2)
    · intro h
      cases h with
      | cons h1 h2 =>
        rw [List.mapM_cons, h1, mapM_iff.mpr h2]; rfl
theorem paired_imp {α β : Type} {R S : α → β → Prop} (i : ∀ x y, R x y → S x y) : ∀ {xs : List α} {ys : List β}, Paired R xs ys → Paired S xs ys
  | _, _, .nil => .nil
  | _, _, .cons h t => .cons (i _ _ h) (paired_imp i t)
theorem map_imp {α β γ : Type} {xs : List α} {F F' : α → Option β} {k : List β → γ} {p : γ} (i : ∀ x y, F x = some y → F' x = some y) (h : (xs.mapM F).map k = some p) : (xs.mapM F').map k = some p := by
  cases q : xs.mapM F with
  | none => rw [q] at h; cases h
  | some ps => rw [q] at h; rw [mapM_iff.mpr (paired_imp i (mapM_iff.mp q))]; exact h
theorem toPy_mono {s s' : Sto} (h : Sub s s') : ∀ (n m : Nat) (d : D) (p : PyData), n ≤ m → toPy s n d = some p → toPy s' m d = some p
  | 0, _, _, _, _, e => by cases e
  | n + 1, 0, _, _, hm, _ => by omega
  | n + 1, m + 1, d, p, hm, e => by
    have rows : ∀ (xs : List D) (ps : List PyData), xs.mapM (toPy s n) = some ps → xs.mapM (toPy s' m) = some ps := fun xs ps hx => mapM_iff.mpr (paired_imp (fun x y z => toPy_mono h n m x y (by omega) z) (mapM_iff.mp hx))
    have mp : ∀ (xs : List D) (k : List PyData → PyData), (xs.mapM (toPy s n)).map k = some p → (xs.mapM (toPy s' m)).map k = some p := fun xs k hx => by
      cases q : xs.mapM (toPy s n) with
      | none => rw [q] at hx; cases hx
      | some ps => rw [q] at hx; rw [rows xs ps q]; exact hx
    cases d with
    | tup xs => exact mp xs _ e
    | ptp xs => exact mp xs _ e
    | rol xs => exact mp xs _ e
    | loc l =>
      simp only [toPy] at e ⊢
      split at e
      · rename_i xs hl
        rw [h.lst l xs hl]
        exact mp xs _ e
      · cases e
    | ty n => cases e
    | _ => exact e
theorem toPyX_mono {s s' : Sto} (h : Sub s s') : ∀ (n m : Nat) (d : D) (p : PyData), n ≤ m → toPyX s n d = some p → toPyX s' m d = some p
  | 0, _, _, _, _, e => by cases e
  | n + 1, 0, _, _, hm, _ => by omega
  | n + 1, m + 1, d, p, hm, e => by
    cases d with
    | tup xs =>
      simp only [toPyX] at e ⊢
      cases q : xs.mapM (toPyX s n) with
      | none => rw [q] at e; cases e
      | some ps =>
        rw [q] at e
        rw [mapM_iff.mpr (paired_imp (fun x y z => toPyX_mono h n m x y (by omega) z) (mapM_iff.mp q))]; exact e
    | ptp xs =>
      simp only [toPyX] at e ⊢
      exact map_imp (fun x y z => toPyX_mono h n m x y (by omega) z) e
    | loc l =>
      simp only [toPyX] at e ⊢
      split at e
      · rename_i xs hl
        rw [h.dct l xs hl]
        simp only
        refine map_imp (fun x y z => ?_) e
        cases q2 : toPyX s n x.2 with
        | none => rw [q2] at z; cases z
        | some p2 => rw [q2] at z; rw [toPyX_mono h n m x.2 p2 (by omega) q2]; exact z
      · rename_i xs hl
        rw [h.lst l xs hl]
        simp only
        exact map_imp (fun x y z => toPyX_mono h n m x y (by omega) z) e
      · cases e
    | rol xs => cases e
    | ty n => cases e
    | _ => exact e
theorem paired_same {α β : Type} {R S : α → β → Prop} (i : ∀ x y z, R x y → S x z → y = z) : ∀ {xs : List α} {ys zs : List β}, Paired R xs ys → Paired S xs zs → ys = zs
  | _, _, _, .nil, .nil => rfl
  | _, _, _, .cons h t, .cons h' t' => by rw [i _ _ _ h h', paired_same i t t']
theorem py_eq {s : Sto} : ∀ (n m : Nat) (d : D) (p q : PyData), toPy s n d = some p → toPyX s m d = some q → p = q
  | 0, _, _, _, _, h, _ => by cases h
  | _ + 1, 0, _, _, _, _, h => by cases h
  | n + 1, m + 1, d, p, q, h, h' => by
    cases d with
    | tup xs =>
      simp only [toPy] at h
      simp only [toPyX] at h'
      cases e : xs.mapM (toPy s n) with
      | none => rw [e] at h; cases h
      | some ps =>
        cases e' : xs.mapM (toPyX s m) with
        | none => rw [e'] at h'; cases h'
        | some qs =>
          rw [e] at h; rw [e'] at h'; cases h; cases h'
          rw [paired_same (fun x y z a b => py_eq n m x y z a b) (mapM_iff.mp e) (mapM_iff.mp e')]
    | ptp xs =>
      simp only [toPy] at h
      simp only [toPyX] at h'
      cases e : xs.mapM (toPy s n) with
      | none => rw [e] at h; cases h
      | some ps =>
        cases e' : xs.mapM (toPyX s m) with
        | none => rw [e'] at h'; cases h'
        | some qs =>
          rw [e] at h; rw [e'] at h'; cases h; cases h'
          rw [paired_same (fun x y z a b => py_eq n m x y z a b) (mapM_iff.mp e) (mapM_iff.mp e')]
    | loc l =>
      simp only [toPy] at h
      simp only [toPyX] at h'
      split at h
      · rename_i xs e0
        rw [e0] at h'
        simp only at h'
        cases e : xs.mapM (toPy s n) with
        | none => rw [e] at h; cases h
        | some ps =>
          cases e' : xs.mapM (toPyX s m) with
          | none => rw [e'] at h'; cases h'
          | some qs =>
            rw [e] at h; rw [e'] at h'; cases h; cases h'
            rw [paired_same (fun x y z a b => py_eq n m x y z a b) (mapM_iff.mp e) (mapM_iff.mp e')]
      · cases h
    | rol xs => cases h'
    | exc _ _ _ => cases h
    | ty t => cases h
    | _ => cases h; cases h'; rfl
def PV (st : Sto) (b k B : Nat) (d : D) : Prop := ∃ p, toPy (Hid b st) (k + 1) d = some p ∧ asc p = true ∧ p.depth ≤ k ∧ wt p ≤ B ∧ p.canLay0 = true
def XV (st : Sto) (b k B : Nat) (d : D) : Prop := ∃ p, toPyX (Hid b st) (k + 1) d = some p ∧ asc p = true ∧ p.depth ≤ k ∧ wt p ≤ B
section
variable {st s : Sto} {b k B : Nat} {d : D}
theorem PV.grow (h : PV st b k B d) (G : Grow b st s) : PV s b k B d := let ⟨p, e, z⟩ := h; ⟨p, toPy_mono G.sub _ _ _ _ (Nat.le_refl _) e, z⟩
theorem XV.grow (h : XV st b k B d) (G : Grow b st s) : XV s b k B d := let ⟨p, e, z⟩ := h; ⟨p, toPyX_mono G.sub _ _ _ _ (Nat.le_refl _) e, z⟩
theorem PV.mono {k' B' : Nat} (h : PV st b k B d) (hk : k ≤ k') (hB : B ≤ B') : PV st b k' B' d := let ⟨p, e, z1, z2, z3, z4⟩ := h; ⟨p, toPy_mono ⟨fun _ _ h => h, fun _ _ h => h⟩ _ _ _ _ (by omega) e, z1, by omega, by omega, z4⟩
theorem XV.mono {k' B' : Nat} (h : XV st b k B d) (hk : k ≤ k') (hB : B ≤ B') : XV st b k' B' d := let ⟨p, e, z1, z2, z3⟩ := h; ⟨p, toPyX_mono ⟨fun _ _ h => h, fun _ _ h => h⟩ _ _ _ _ (by omega) e, z1, by omega, by omega⟩
theorem pv_leaf {p : PyData} (h : ∀ n, toPy (Hid b st) (n + 1) d = some p) (ha : asc p = true) (hd : p.depth = 0) (hw : wt p ≤ B) (hc : p.canLay0 = true) : PV st b k B d := ⟨p, h _, ha, by omega, hw, hc⟩
theorem xv_leaf {p : PyData} (h : ∀ n, toPyX (Hid b st) (n + 1) d = some p) (ha : asc p = true) (hd : p.depth = 0) (hw : wt p ≤ B) : XV st b k B d := ⟨p, h _, ha, by omega, hw⟩
theorem pv_str {x : Str} (h : asB' x = true) (hl : 10 * x.length + 2 ≤ B) : PV st b k B (.str x) := pv_leaf (fun _ => rfl) (by simp only [asc]; exact h) rfl (by simp only [wt]; exact hl) (by simp only [PyData.canLay0]; exact as_ok (as_of h))
theorem xv_str {x : Str} (h : asB' x = true) (hl : 10 * x.length + 2 ≤ B) : XV st b k B (.str x) := xv_leaf (fun _ => rfl) (by simp only [asc]; exact h) rfl (by simp only [wt]; exact hl)
theorem pv_int {i : Int} (h : intOk i = true) (hl : 50 ≤ B) : PV st b k B (.int i) := pv_leaf (fun _ => rfl) (by simp only [asc]; exact h) rfl (by simp only [wt]; exact hl) rfl
theorem xv_int {i : Int} (h : intOk i = true) (hl : 50 ≤ B) : XV st b k B (.int i) := xv_leaf (fun _ => rfl) (by simp only [asc]; exact h) rfl (by simp only [wt]; exact hl)
theorem pv_bl {i : Bool} (hl : 5 ≤ B) : PV st b k B (.bl i) := pv_leaf (fun _ => rfl) rfl rfl hl rfl
theorem pv_non (hl : 5 ≤ B) : PV st b k B .non := pv_leaf (fun _ => rfl) rfl rfl hl rfl
theorem xv_bl {i : Bool} (hl : 5 ≤ B) : XV st b k B (.bl i) := xv_leaf (fun _ => rfl) rfl rfl hl
theorem xv_non (hl : 5 ≤ B) : XV st b k B .non := xv_leaf (fun _ => rfl) rfl rfl hl
theorem all_pv : ∀ {xs : List D}, (∀ x, x ∈ xs → PV st b k B x) → ∃ ps, xs.mapM (toPy (Hid b st) (k + 1)) = some ps ∧ ascAll ps = true ∧ PyData.depthAll ps ≤ k ∧ wtAll ps ≤ xs.length * (B + 2) ∧ PyData.canLayAll0 ps = true
  | [], _ => ⟨[], rfl, rfl, Nat.zero_le _, Nat.zero_le _, rfl⟩
  | x :: xs, h => by
    obtain ⟨p, e, a1, a2, a3, a4⟩ := h x (by simp)
    obtain ⟨ps, e', b1, b2, b3, b4⟩ := all_pv (xs := xs) fun y hy => h y (by simp [hy])
    refine ⟨p :: ps, by rw [List.mapM_cons, e, e']; rfl, by simp only [ascAll, a1, b1, Bool.and_self], by simp only [PyData.depthAll]; omega, ?_, by simp only [PyData.canLayAll0, a4, b4, Bool.and_self]⟩
    simp only [wtAll, List.length_cons, Nat.succ_mul]
    omega
theorem all_xv : ∀ {xs : List D}, (∀ x, x ∈ xs → XV st b k B x) → ∃ ps, xs.mapM (toPyX (Hid b st) (k + 1)) = some ps ∧ ascAll ps = true ∧ PyData.depthAll ps ≤ k ∧ wtAll ps ≤ xs.length * (B + 2)
  | [], _ => ⟨[], rfl, rfl, Nat.zero_le _, Nat.zero_le _⟩
  | x :: xs, h => by
    obtain ⟨p, e, a1, a2, a3⟩ := h x (by simp)
    obtain ⟨ps, e', b1, b2, b3⟩ := all_xv (xs := xs) fun y hy => h y (by simp [hy])
    refine ⟨p :: ps, by rw [List.mapM_cons, e, e']; rfl, by simp only [ascAll, a1, b1, Bool.and_self], by simp only [PyData.depthAll]; omega, ?_⟩
    simp only [wtAll, List.length_cons, Nat.succ_mul]
    omega
theorem pv_tup {xs : List D} {n C : Nat} (h : ∀ x, x ∈ xs → PV st b k B x) (hn : xs.length ≤ n) (hC : 3 + n * (B + 2) ≤ C) : PV st b (k + 1) C (.tup xs) := by
  obtain ⟨ps, e, a1, a2, a3, a4⟩ := all_pv h
  have := Nat.mul_le_mul_right (B + 2) hn
  exact ⟨.tuple ps, by simp only [toPy]; rw [e]; rfl, by simp only [asc]; exact a1, by simp only [PyData.depth]; omega, by simp only [wt]; omega, by simp only [PyData.canLay0]; exact a4⟩
theorem xv_tup {xs : List D} {n C : Nat} (h : ∀ x, x ∈ xs → XV st b k B x) (hn : xs.length ≤ n) (hC : 3 + n * (B + 2) ≤ C) : XV st b (k + 1) C (.tup xs) := by
  obtain ⟨ps, e, a1, a2, a3⟩ := all_xv h
  have := Nat.mul_le_mul_right (B + 2) hn
  exact ⟨.tuple ps, by simp only [toPyX]; rw [e]; rfl, by simp only [asc]; exact a1, by simp only [PyData.depth]; omega, by simp only [wt]; omega⟩
theorem pv_lst {l : Nat} {xs : List D} {n C : Nat} (hl : st[l]? = some (.lst xs)) (nb : l ≠ b) (h : ∀ x, x ∈ xs → PV st b k B x) (hn : xs.length ≤ n) (hC : 3 + n * (B + 2) ≤ C) : PV st b (k + 1) C (.loc l) := by
  obtain ⟨ps, e, a1, a2, a3, a4⟩ := all_pv h
  have := Nat.mul_le_mul_right (B + 2) hn
  exact ⟨.list ps, by simp only [toPy, hid_of nb hl]; rw [e]; rfl, by simp only [asc]; exact a1, by simp only [PyData.depth]; omega, by simp only [wt]; omega, by simp only [PyData.canLay0]; exact a4⟩
theorem xv_dct0 {l : Nat} (hl : st[l]? = some (.dct [])) (nb : l ≠ b) (hC : 3 ≤ B) : XV st b (k + 1) B (.loc l) :=
  ⟨.dict [], by simp only [toPyX, hid_of nb hl]; rfl, rfl, by simp only [PyData.depth, PyData.depthKv]; omega, by simp only [wt, wtKv]; omega⟩
theorem xv_dct1 {l : Nat} {x : Str} {i : Int} (hl : st[l]? = some (.dct [(.inr x, .int i)])) (nb : l ≠ b) (hx : asB' x = true) (hi : intOk i = true) (hC : 10 * x.length + 60 ≤ B) : XV st b (k + 1) B (.loc l) :=
  ⟨.dict [(.str x, .int i)], by simp only [toPyX, hid_of nb hl]; rfl, by simp only [asc, ascKv, hx, hi]; rfl, by simp only [PyData.depth, PyData.depthKv]; omega, by simp only [wt, wtKv]; omega⟩
/-- a thing is shown; a PV's kind -/
theorem tyN_py {n : Nat} {p : PyData} (h : toPy st n d = some p) : ∃ t, tyName st d = some t := by
  cases n with
  | zero => cases h
  | succ n =>
    cases d with
    | loc l =>
      simp only [toPy] at h
      split at h
      · rename_i xs e; exact ⟨"list", by simp only [tyName, e]⟩
      · cases h
    | ty _ => cases h
    | exc _ _ _ => cases h
    | _ => exact ⟨_, rfl⟩
theorem tyN_pyX {n : Nat} {p : PyData} (h : toPyX st n d = some p) : ∃ t, tyName st d = some t := by
  cases n with
  | zero => cases h
  | succ n =>
    cases d with
    | loc l =>
      simp only [toPyX] at h
      split at h
      · rename_i xs e; exact ⟨"dict", by simp only [tyName, e]⟩
      · rename_i xs e; exact ⟨"list", by simp only [tyName, e]⟩
      · cases h
    | ty _ => cases h
    | exc _ _ _ => cases h
    | _ => exact ⟨_, rfl⟩
def Val (st : Sto) (b : Nat) (d : D) : Prop := PV st b 60 1000000 d ∨ XV st b 60 1000000 d
theorem PV.val (h : PV st b k B d) (hk : k ≤ 60 := by decide) (hB : B ≤ 1000000 := by decide) : Val st b d := .inl (h.mono hk hB)
theorem XV.val (h : XV st b k B d) (hk : k ≤ 60 := by decide) (hB : B ≤ 1000000 := by decide) : Val st b d := .inr (h.mono hk hB)
theorem Val.grow (h : Val st b d) (G : Grow b st s) : Val s b d := h.elim (fun z => .inl (z.grow G)) fun z => .inr (z.grow G)
theorem Val.ty (h : Val st b d) : ∃ t, tyName st d = some t := by
  rcases h with ⟨p, e, _⟩ | ⟨p, e, _⟩
  · exact tyN_py (toPy_mono Sub.hid _ _ _ _ (Nat.le_refl _) e)
  · exact tyN_pyX (toPyX_mono Sub.hid _ _ _ _ (Nat.le_refl _) e)
theorem Val.repr (h : Val st b d) : ∃ x, gRepr [d] st = some (.str x, st) ∧ As x := by
  have hsz : 1000000 ≤ sizeLine := by decide
  rcases h with ⟨p, e, a1, a2, a3, a4⟩ | ⟨p, e, a1, a2, a3⟩
  · obtain ⟨s1, s2, s3⟩ := shown_as p a1
    have sh : shows p = true := by
      unfold shows
      rw [s3, decide_eq_true (show p.shown.length ≤ sizeLine by omega), decide_eq_true (show p.depth ≤ 100 by omega)]; rfl
    exact ⟨p.shown, by simp only [gRepr, toPy_mono Sub.hid _ 70 _ _ (by omega) e, sh, if_true], s1⟩
  · obtain ⟨s1, s2, s3⟩ := shown_as p a1
    have sh : shows p = true := by
      unfold shows
      rw [s3, decide_eq_true (show p.shown.length ≤ sizeLine by omega), decide_eq_true (show p.depth ≤ 100 by omega)]; rfl
    have e2 := toPyX_mono (s := Hid b st) (s' := st) Sub.hid _ 70 _ _ (by omega) e
    cases q : toPy st 70 d with
    | none => exact ⟨p.shown, by simp only [gRepr, q, e2, sh, if_true], s1⟩
    | some p' =>
      have := py_eq _ _ _ _ _ q e2
      subst this
      exact ⟨p'.shown, by simp only [gRepr, q, sh, if_true], s1⟩
end
end Fe
namespace Fe
open PySem PySem.Spec PyProof.Rows L2
/-! ## what the pure defs of a law are told of -/
def Ext (st s : Sto) : Prop := ∃ ys, s = st ++ ys
theorem Ext.refl {st : Sto} : Ext st st := ⟨[], by simp⟩
theorem Ext.app {st s ys : Sto} (h : Ext st s) : Ext st (s ++ ys) := let ⟨zs, e⟩ := h; ⟨zs ++ ys, by rw [e, List.append_assoc]⟩
theorem Ext.trans {st s t : Sto} (h : Ext st s) (h' : Ext s t) : Ext st t := by
  obtain ⟨ys, e⟩ := h'
  rw [e]; exact h.app
theorem Ext.grow {st s : Sto} {b : Nat} (h : Ext st s) : Grow b st s := let ⟨ys, e⟩ := h; e ▸ .app
theorem Ext.bag {st s : Sto} {b : Nat} (h : Ext st s) (B : Bag st b) : Bag s b := let ⟨ys, e⟩ := h; e ▸ B.app
theorem Ext.get {st s : Sto} {l : Nat} {c : Cell} (h : Ext st s) (e : st[l]? = some c) : s[l]? = some c := let ⟨ys, q⟩ := h; q ▸ get_app e
theorem Ext.len {st s : Sto} (h : Ext st s) : st.length ≤ s.length := by obtain ⟨ys, e⟩ := h; rw [e, List.length_append]; omega
theorem ty_ext {st s : Sto} {d : D} {t : String} (h : Ext st s) (e : tyName st d = some t) : tyName s d = some t := by
  cases d with
  | loc l =>
    simp only [tyName] at e ⊢
    cases q : st[l]? with
    | none => rw [q] at e; cases e
    | some c => rw [h.get q]; rw [q] at e; exact e
  | _ => exact e
def tyNames : List String := ["NoneType", "bool", "int", "str", "tuple", "list", "dict"]
theorem ty_in {st : Sto} {d : D} {t : String} (h : tyName st d = some t) : t ∈ tyNames := by
  cases d with
  | loc l =>
    simp only [tyName] at h
    split at h <;> cases h <;> decide
  | ty _ => cases h
  | exc _ _ _ => cases h
  | _ => cases h; decide
def isK (t n : String) : Bool := if n = "int" then (t == "int" || t == "bool") else t == n
theorem kit_in : ∀ t, t ∈ tyNames → ∀ n, n ∈ ["int", "bool", "str", "tuple", "list", "dict"] → kitB t n = some (isK t n) := by decide +kernel
theorem wp_isiV {st : Sto} {d : D} {t n : String} {Q} (h : tyName st d = some t) (hn : n ∈ ["int", "bool", "str", "tuple", "list", "dict"]) : Wp (gIsi [d, .ty n]) st Q ↔ Q (.bl (isK t n)) st := wp_isi h (kit_in t (ty_in h) n hn)
/-! a list held against the empty list -/
theorem py_lst {st : Sto} {l : Nat} {xs : List D} {n : Nat} (h : st[l]? = some (.lst xs)) : toPy st (n + 1) (.loc l) = (xs.mapM (toPy st n)).map .list := by simp only [toPy, h]
theorem shaped_nil : SeqAt.shaped (.list []) = true := by
  unfold SeqAt.shaped PyData.canLay0 PyData.depth; rfl
theorem wp_eqNil {st : Sto} {l k : Nat} {xs : List D} {Q} (h : st[l]? = some (.lst xs)) (h' : st[k]? = some (.lst [])) : Wp (gEqA (.loc l) (.loc k)) st Q ↔ Q (.bl xs.isEmpty) st := by
  refine wp_run ?_
  have e2 : toPy st 70 (.loc k) = some (.list []) := by rw [py_lst h']; rfl
  have lens : gLenNe false (.loc l) (.loc k) st = if xs.length = 0 then none else some (.bl false, st) := by simp only [gLenNe, lstOf, h, h']; rfl
  unfold gEqA or2
  cases xs with
  | nil =>
    have e1 : toPy st 70 (.loc l) = some (.list []) := by rw [py_lst h]; rfl
    unfold gEq
    simp only [e1, e2, shaped_nil, Bool.and_self, if_true]
    rfl
  | cons x xs =>
    have le : gLenNe false (.loc l) (.loc k) st = some (.bl false, st) := by rw [lens, if_neg (by simp)]
    unfold gEq
    cases q : toPy st 70 (.loc l) with
    | none => simp only [le]; rfl
    | some p =>
      simp only [e2, shaped_nil, Bool.and_true]
      cases sp : SeqAt.shaped p with
      | false => simp only [le]; rfl
      | true =>
        rw [py_lst h] at q
        cases q2 : (x :: xs).mapM (toPy st 69) with
        | none => rw [q2] at q; cases q
        | some ps =>
          rw [q2] at q; cases q
          obtain ⟨y, ys, _, _, e⟩ := mapM_cons q2
          subst e
          rfl
theorem wp_neNil {st : Sto} {l k : Nat} {xs : List D} {Q} (h : st[l]? = some (.lst xs)) (h' : st[k]? = some (.lst [])) : Wp (gNeA (.loc l) (.loc k)) st Q ↔ Q (.bl (!xs.isEmpty)) st := by
  refine wp_run ?_
  have e2 : toPy st 70 (.loc k) = some (.list []) := by rw [py_lst h']; rfl
  have lens : gLenNe true (.loc l) (.loc k) st = if xs.length = 0 then none else some (.bl true, st) := by simp only [gLenNe, lstOf, h, h']; rfl
  unfold gNeA or2
  cases xs with
  | nil =>
    have e1 : toPy st 70 (.loc l) = some (.list []) := by rw [py_lst h]; rfl
    unfold gEq
    simp only [e1, e2, shaped_nil, Bool.and_self, if_true]
    rfl
  | cons x xs =>
    have le : gLenNe true (.loc l) (.loc k) st = some (.bl true, st) := by rw [lens, if_neg (by simp)]
    unfold gEq
    cases q : toPy st 70 (.loc l) with
    | none => simp only [le]; rfl
    | some p =>
      simp only [e2, shaped_nil, Bool.and_true]
      cases sp : SeqAt.shaped p with
      | false => simp only [le]; rfl
      | true =>
        rw [py_lst h] at q
        cases q2 : (x :: xs).mapM (toPy st 69) with
        | none => rw [q2] at q; cases q
        | some ps =>
          rw [q2] at q; cases q
          obtain ⟨y, ys, _, _, e⟩ := mapM_cons q2
          subst e
          rfl
/-! all([..]) -/
theorem bools_map (ks : List Bool) : boolsOf (ks.map D.bl) = some ks := by
  induction ks with
  | nil => rfl
  | cons k ks ih => simp only [List.map_cons, boolsOf, ih, Option.map_some]
theorem wp_all {st : Sto} {l : Nat} {ks : List Bool} {Q} (h : st[l]? = some (.lst (ks.map .bl))) : Wp (gAll [.loc l]) st Q ↔ Q (.bl (ks.all id)) st := wp_run (by simp only [gAll, lstOf, h, Option.bind_some, bools_map])
/-! a comprehension over a tuple, or over a text's signs -/
theorem wp_lcP {it : Fi} {g : Fg} {tt : Ft} {te : Fx} {vs : List Nat} {r : DEnv} {st : Sto} {ds : List D} {ok : Sto → Bool} {Q : D → Sto → Prop} (t : D → Bool) (e : D → D) (hi : it r st = some ((ds, ok), st)) (hok : ok st = true) (hl : ds.length ≤ sizeLine)
    (h : ∀ d, d ∈ ds → ∃ r1, g d (wipeD r vs) st = some (r1, st) ∧ tt r1 st = some (t d, st) ∧ (t d = true → te r1 st = some (e d, st))) :
    Wp (eLc it g tt te vs r) st Q ↔ Q (.loc st.length) (st ++ [.lst ((ds.filter t).map e)]) := by
  have run : lcF g tt te ok (wipeD r vs) ds [] st = some ((ds.filter t).map e, st) := by
    obtain ⟨x, s, e1, e2, e3⟩ := wp_lcF (g := g) (tt := tt) (te := te) (r := wipeD r vs) t e hok ds [] (fun x s => x = (ds.filter t).map e ∧ s = st) (by simpa using hl) h ⟨by simp, rfl⟩
    rw [e1, e2, e3]
  rw [wp_lc, wp_run hi, wp_run run]
theorem wp_app {α : Type} {f : M α} {st : Sto} {x : α} {Q : α → Sto → Prop} (h : Wp f st fun y s => y = x ∧ s = st) : f st = some (x, st) := by
  obtain ⟨y, s, e, rfl, rfl⟩ := h
  exact e
end Fe
namespace Fe
open PySem PySem.Spec PyProof.Rows L2
/-! ## expressions whose things keep a promise, whatever the bag gives -/
section
variable {b n : Nat} {st0 : Sto} {P : Sto → D → Prop} {r : DEnv} {f : Fx} {g : Fa}
def Ge (b : Nat) (st0 : Sto) (P : Sto → D → Prop) (r : DEnv) (f : Fx) : Prop := ∀ s, Grow b st0 s → Bag s b → Wp (f r) s fun v s' => P s' v ∧ Bag s' b ∧ Grow b s s'
def Ga (b : Nat) (st0 : Sto) (P : Sto → D → Prop) (r : DEnv) (g : Fa) (n : Nat) : Prop := ∀ s, Grow b st0 s → Bag s b → Wp (g r) s fun ds s' => (∀ d, d ∈ ds → P s' d) ∧ ds.length = n ∧ Bag s' b ∧ Grow b s s'
def Keeps (b : Nat) (P : Sto → D → Prop) : Prop := ∀ s s' v, Grow b s s' → P s v → P s' v
theorem ga_nil : Ga b st0 P r aNil 0 := fun s G B => by
  rw [wp_nil]
  exact ⟨fun d h => (nomatch h), rfl, B, .refl⟩
theorem ga_cons (kp : Keeps b P) (hf : Ge b st0 P r f) (hg : Ga b st0 P r g n) : Ga b st0 P r (aCons f g) (n + 1) := fun s G B => by
  rw [wp_cons]
  refine (hf s G B).mono fun v s1 ⟨p1, B1, G1⟩ => ?_
  refine (hg s1 (G.trans G1) B1).mono fun ds s2 ⟨p2, l2, B2, G2⟩ => ?_
  refine ⟨fun d hd => ?_, by rw [List.length_cons, l2], B2, G1.trans G2⟩
  rcases List.mem_cons.mp hd with e | hd
  · rw [e]; exact kp _ _ _ G2 p1
  · exact p2 d hd
theorem ge_run {v : D} (h : ∀ s, f r s = some (v, s)) (p : ∀ s, Grow b st0 s → P s v) : Ge b st0 P r f := fun s G B => by
  rw [wp_run (h s)]
  exact ⟨p s G, B, .refl⟩
/-- a list: its cell, fresh -/
theorem ge_lst (h : Ga b st0 P r g n) (hn : n ≤ 1000) : Ge b st0 (fun s v => ∃ l ds, v = .loc l ∧ l ≠ b ∧ s[l]? = some (.lst ds) ∧ (∀ d, d ∈ ds → P s d) ∧ ds.length = n) r (eLst g) ∨ ¬ Keeps b P := by
  by_cases kp : Keeps b P
  · refine .inl fun s G B => ?_
    rw [wp_lst]
    refine (h s G B).mono fun ds s1 ⟨p, l, B1, G1⟩ => ?_
    have := B1.lt
    exact ⟨by rw [l]; exact Nat.le_trans hn (by decide), ⟨_, ds, rfl, by omega, get_end, fun d hd => kp _ _ _ .app (p d hd), l⟩, B1.app, G1.app'⟩
  · exact .inr kp
theorem ge_list (kp : Keeps b P) (h : Ga b st0 P r g n) (hn : n ≤ 1000) : Ge b st0 (fun s v => ∃ l ds, v = .loc l ∧ l ≠ b ∧ s[l]? = some (.lst ds) ∧ (∀ d, d ∈ ds → P s d) ∧ ds.length = n) r (eLst g) := (ge_lst h hn).elim id fun z => absurd kp z
theorem Ge.imp {Q : Sto → D → Prop} (h : Ge b st0 P r f) (i : ∀ s v, P s v → Q s v) : Ge b st0 Q r f := fun s G B => (h s G B).mono fun v s' ⟨p, z⟩ => ⟨i _ _ p, z⟩
/-- xs + [..]; one of them -/
theorem some_add {k m : Nat} {f1 f2 : Fx} (kp : Keeps b P) (h1 : Ge b st0 (fun s v => ∃ l ds, v = .loc l ∧ l ≠ b ∧ s[l]? = some (.lst ds) ∧ (∀ d, d ∈ ds → P s d) ∧ ds.length = k) r f1) (h2 : Ge b st0 (fun s v => ∃ l ds, v = .loc l ∧ l ≠ b ∧ s[l]? = some (.lst ds) ∧ (∀ d, d ∈ ds → P s d) ∧ ds.length = m) r f2) (hk : k + m ≤ 1000) :
    Ge b st0 (fun s v => ∃ l ds, v = .loc l ∧ l ≠ b ∧ s[l]? = some (.lst ds) ∧ (∀ d, d ∈ ds → P s d) ∧ ds.length = k + m) r (eBin gAdd f1 f2) := fun s G B => by
  rw [wp_bin]
  refine (h1 s G B).mono fun v s1 ⟨⟨l, ds, e, nb, hl, p, len⟩, B1, G1⟩ => ?_
  refine (h2 s1 (G.trans G1) B1).mono fun w s2 ⟨⟨l2, ds2, e2, nb2, hl2, p2, len2⟩, B2, G2⟩ => ?_
  subst e e2
  rw [wp_addL (G2.get nb hl) hl2 (by rw [len, len2]; exact Nat.le_trans hk (by decide))]
  have := B2.lt
  refine ⟨⟨_, _, rfl, by omega, get_end, fun d hd => ?_, by rw [List.length_append, len, len2]⟩, B2.app, (G1.trans G2).app'⟩
  rcases List.mem_append.mp hd with q | q
  · exact kp _ _ _ (G2.trans .app) (p d q)
  · exact kp _ _ _ .app (p2 d q)
theorem ge_some {m : Nat} {f2 : Fx} {i : Nat} (kp : Keeps b P) (hv : r[i]? = some (some (.loc b))) (h2 : Ge b st0 (fun s v => ∃ l ds, v = .loc l ∧ l ≠ b ∧ s[l]? = some (.lst ds) ∧ (∀ d, d ∈ ds → P s d) ∧ ds.length = m) r f2) (h0 : 0 < m) (h1 : m ≤ 1000) :
    Ge b st0 P r (eCall m_some (aCons (eVar i) (aCons f2 aNil))) := fun s G B => by
  rw [wp_call]
  simp only [wp_cons, wp_nil, wp_var, hv, Option.some.injEq, exists_eq_left']
  refine (h2 s G B).mono fun v s1 ⟨⟨l, ds, e, nb, hl, p, len⟩, B1, G1⟩ => ?_
  subst e
  refine (some_ok (xs := ds) B1 (by simp only [seqOf, hl]) (fun q => nb (by cases q; rfl)) (by intro q; rw [q] at len; simp at len; omega) (by omega)).mono fun d s2 ⟨hd, B2, G2⟩ => ?_
  exact ⟨kp _ _ _ G2 (p d hd), B2, G1.trans G2⟩
end
def OV (b k B : Nat) (s : Sto) (v : D) : Prop := PV s b k B v ∨ XV s b k B v
theorem ov_keeps {b k B : Nat} : Keeps b (OV b k B) := fun s s' v G h => h.elim (fun z => .inl (z.grow G)) fun z => .inr (z.grow G)
def niceB (k B : Nat) (p : PyData) : Bool := asc p && decide (p.depth ≤ k) && decide (wt p ≤ B) && p.canLay0
theorem ge_pv {b k B : Nat} {st0 : Sto} {r : DEnv} {f : Fx} {v : D} {p : PyData} (h : ∀ s, f r s = some (v, s)) (hp : ∀ s, toPy s (k + 1) v = some p) (hn : niceB k B p = true) : Ge b st0 (OV b k B) r f :=
  ge_run h fun s _ => .inl (by
    simp only [niceB, Bool.and_eq_true, decide_eq_true_eq] at hn
    exact ⟨p, hp _, hn.1.1.1, hn.1.1.2, hn.1.2, hn.2⟩)
/-! ## a thing that is no one's usual -/
def l_odd1 : Fx := eLst (aCons (eC .non) (aCons (eC (.bl true)) (aCons (eC (.bl false)) (aCons (eC (.int 0)) (aCons (eC (.int 1)) (aCons (eUn gNeg (eC (.int 1))) (aCons (eBin gPow (eC (.int 10)) (eC (.int 39))) (aCons (eC (.str "")) (aCons (eC (.str "a")) (aCons (eC (.str "no")) (aCons (eC (.str "thing")) (aCons (eC (.str "word")) (aCons (eTup aNil) (aCons (eLst aNil) (aCons eDict0 (aCons (eTup (aCons (eC (.str "thing")) aNil)) (aCons (eTup (aCons (eC (.str "hole")) aNil)) aNil)))))))))))))))))
def l_odd2 : Fx := eLst (aCons (eTup (aCons (eC (.str "raw")) (aCons (eC (.str "truth")) (aCons (eC (.str "yes")) aNil)))) (aCons (eLst (aCons (eC (.str "no")) aNil)) (aCons (eDict1 "a" (.int 1)) (aCons (eC (.str "a\n")) (aCons (eTup (aCons (eTup (aCons (eC (.str "a")) (aCons (eC (.str "b")) aNil))) aNil)) (aCons (eTup (aCons (eC (.str "a")) (aCons (eC (.str "b")) (aCons (eTup (aCons (eC (.str "c")) aNil)) aNil)))) (aCons (eC (.str "abcdefghijklm")) aNil)))))))
def m_odd : Fd := runB 2 (sSeq (sAsg l_odd1 (gtName 1)) (sRet (eCall m_some (aCons (eVar 0) (aCons (eBin gAdd (eVar 1) l_odd2) aNil)))))
theorem run_neg (r : DEnv) (s : Sto) : eUn gNeg (eC (.int 1)) r s = some (.int (-1), s) := rfl
theorem run_pow (r : DEnv) (s : Sto) : eBin gPow (eC (.int 10)) (eC (.int 39)) r s = some (.int (10 ^ 39), s) := wp_app (Q := fun _ _ => True) (by
  rw [wp_bin]
  simp only [wp_c, wp_powI (show CPow 10 39 from ⟨by decide, by decide, by decide⟩)]
  exact ⟨rfl, trivial⟩)
theorem ge_lstO {b k B C n m : Nat} {st0 : Sto} {r : DEnv} {g : Fa} (h : Ga b st0 (fun s v => PV s b k B v) r g n) (hn : n ≤ 1000) (hC : 3 + n * (B + 2) ≤ C) : Ge b st0 (OV b (k + 1) C) r (eLst g) :=
  (ge_list (fun s s' v G h => h.grow G) h hn).imp fun s v ⟨l, ds, e, nb, hl, p, len⟩ => by
    subst e
    exact .inl (pv_lst hl nb p (Nat.le_of_eq len) hC)
theorem odd1_ok {b : Nat} {st0 : Sto} {r : DEnv} : Ga b st0 (OV b 3 400) r (aCons (eC .non) (aCons (eC (.bl true)) (aCons (eC (.bl false)) (aCons (eC (.int 0)) (aCons (eC (.int 1)) (aCons (eUn gNeg (eC (.int 1))) (aCons (eBin gPow (eC (.int 10)) (eC (.int 39))) (aCons (eC (.str "")) (aCons (eC (.str "a")) (aCons (eC (.str "no")) (aCons (eC (.str "thing")) (aCons (eC (.str "word")) (aCons (eTup aNil) (aCons (eLst aNil) (aCons eDict0 (aCons (eTup (aCons (eC (.str "thing")) aNil)) (aCons (eTup (aCons (eC (.str "hole")) aNil)) aNil))))))))))))))))) 17 := by
  have c : ∀ (v : D) (p : PyData), (∀ s, toPy s 4 v = some p) → niceB 3 400 p = true → Ge b st0 (OV b 3 400) r (eC v) := fun v p h h' => ge_pv (fun _ => rfl) h h'
  refine ga_cons ov_keeps (c _ .none (fun _ => rfl) (by decide +kernel)) (ga_cons ov_keeps (c _ (.bool true) (fun _ => rfl) (by decide +kernel)) (ga_cons ov_keeps (c _ (.bool false) (fun _ => rfl) (by decide +kernel))
    (ga_cons ov_keeps (c _ (.int 0) (fun _ => rfl) (by decide +kernel)) (ga_cons ov_keeps (c _ (.int 1) (fun _ => rfl) (by decide +kernel)) (ga_cons ov_keeps (ge_pv (run_neg r) (p := .int (-1)) (fun _ => rfl) (by decide +kernel)) (ga_cons ov_keeps (ge_pv (run_pow r) (p := .int (10 ^ 39)) (fun _ => rfl) (by decide +kernel))
    (ga_cons ov_keeps (c _ (.str "") (fun _ => rfl) (by decide +kernel)) (ga_cons ov_keeps (c _ (.str "a") (fun _ => rfl) (by decide +kernel)) (ga_cons ov_keeps (c _ (.str "no") (fun _ => rfl) (by decide +kernel)) (ga_cons ov_keeps (c _ (.str "thing") (fun _ => rfl) (by decide +kernel)) (ga_cons ov_keeps (c _ (.str "word") (fun _ => rfl) (by decide +kernel))
    (ga_cons ov_keeps (ge_pv (p := .tuple []) (fun _ => rfl) (fun _ => rfl) (by decide +kernel)) (ga_cons ov_keeps ?_ (ga_cons ov_keeps ?_ (ga_cons ov_keeps (ge_pv (p := .tuple [.str "thing"]) (fun _ => rfl) (fun _ => rfl) (by decide +kernel)) (ga_cons ov_keeps (ge_pv (p := .tuple [.str "hole"]) (fun _ => rfl) (fun _ => rfl) (by decide +kernel)) ga_nil))))))))))))))))
  · exact ge_lstO (m := 0) (k := 2) (B := 1) ga_nil (by omega) (by omega)
  · intro s G B
    rw [wp_run (show eDict0 r s = some (.loc s.length, s ++ [.dct []]) from rfl)]
    have := B.lt
    exact ⟨.inr (xv_dct0 (k := 2) get_end (by omega) (by omega)), B.app, .app⟩
theorem odd2_ok {b : Nat} {st0 : Sto} {r : DEnv} : Ga b st0 (OV b 3 400) r (aCons (eTup (aCons (eC (.str "raw")) (aCons (eC (.str "truth")) (aCons (eC (.str "yes")) aNil)))) (aCons (eLst (aCons (eC (.str "no")) aNil)) (aCons (eDict1 "a" (.int 1)) (aCons (eC (.str "a\n")) (aCons (eTup (aCons (eTup (aCons (eC (.str "a")) (aCons (eC (.str "b")) aNil))) aNil)) (aCons (eTup (aCons (eC (.str "a")) (aCons (eC (.str "b")) (aCons (eTup (aCons (eC (.str "c")) aNil)) aNil)))) (aCons (eC (.str "abcdefghijklm")) aNil))))))) 7 := by
  refine ga_cons ov_keeps (ge_pv (p := .tuple [.str "raw", .str "truth", .str "yes"]) (fun _ => rfl) (fun _ => rfl) (by decide +kernel)) (ga_cons ov_keeps ?_ (ga_cons ov_keeps ?_ (ga_cons ov_keeps (ge_pv (p := .str "a\n") (fun _ => rfl) (fun _ => rfl) (by decide +kernel))
    (ga_cons ov_keeps (ge_pv (p := .tuple [.tuple [.str "a", .str "b"]]) (fun _ => rfl) (fun _ => rfl) (by decide +kernel)) (ga_cons ov_keeps (ge_pv (p := .tuple [.str "a", .str "b", .tuple [.str "c"]]) (fun _ => rfl) (fun _ => rfl) (by decide +kernel)) (ga_cons ov_keeps (ge_pv (p := .str "abcdefghijklm") (fun _ => rfl) (fun _ => rfl) (by decide +kernel)) ga_nil))))))
  · refine ge_lstO (m := 0) (k := 2) (B := 50) (ga_cons (fun s s' v G h => h.grow G) (ge_run (fun _ => rfl) fun s _ => pv_str (by decide +kernel) (by decide +kernel)) ga_nil) (by omega) (by omega)
  · intro s G B
    rw [wp_run (show eDict1 "a" (.int 1) r s = some (.loc s.length, s ++ [.dct [(.inr "a", .int 1)]]) from rfl)]
    have := B.lt
    exact ⟨.inr (xv_dct1 (k := 2) get_end (by omega) (by decide +kernel) (by decide +kernel) (by decide +kernel)), B.app, .app⟩
theorem odd_ok {st : Sto} {b : Nat} (B : Bag st b) : Wp (m_odd [.loc b]) st fun v s => OV b 3 400 s v ∧ Bag s b ∧ Grow b st s := by
  unfold m_odd
  rw [wp_runB]
  show Wp (sSeq _ _ [some (.loc b), none]) st _
  rw [wp_seq, wp_sAsg]
  refine (ge_list ov_keeps odd1_ok (by omega) st .refl B).mono fun v s ⟨⟨l, ds, e, nb, hl, p, len⟩, B1, G1⟩ => ?_
  subst e
  rw [wp_gtName]
  show Wp (sRet _ [some (.loc b), some (.loc l)]) s _
  rw [wp_sRet]
  have h2 := ge_list (r := [some (.loc b), some (.loc l)]) ov_keeps (odd2_ok (b := b) (st0 := s)) (by omega)
  have h1 : Ge b s (fun s v => ∃ l ds, v = .loc l ∧ l ≠ b ∧ s[l]? = some (.lst ds) ∧ (∀ d, d ∈ ds → OV b 3 400 s d) ∧ ds.length = 17) [some (.loc b), some (.loc l)] (eVar 1) := ge_run (fun _ => rfl) fun s' G => ⟨l, ds, rfl, nb, G.get nb hl, fun d hd => ov_keeps _ _ _ G (p d hd), len⟩
  refine (ge_some (i := 0) ov_keeps rfl (some_add ov_keeps h1 h2 (by omega)) (by omega) (by omega) s .refl B1).mono fun v s2 ⟨p2, B2, G2⟩ => ⟨p2, B2, G1.trans G2⟩
end Fe
namespace Fe
open PySem PySem.Spec PyProof.Rows L2
/-! ## things that a store holds, some cells beside -/
def HidL (h : List Nat) (st : Sto) : Sto := h.foldl (fun s b => Hid b s) st
theorem hidL_of {l : Nat} {c : Cell} : ∀ {h : List Nat} {st : Sto}, l ∉ h → st[l]? = some c → (HidL h st)[l]? = some c
  | [], _, _, e => e
  | b :: h, st, n, e => hidL_of (h := h) (fun z => n (by simp [z])) (hid_of (fun z => n (by simp [z])) e)
theorem hidL_at {l : Nat} {c : Cell} (hc : ∀ xs, c ≠ .dtt xs) : ∀ {h : List Nat} {st : Sto}, (HidL h st)[l]? = some c → l ∉ h ∧ st[l]? = some c
  | [], _, e => ⟨by simp, e⟩
  | b :: h, st, e => by
    obtain ⟨n, e1⟩ := hidL_at hc (h := h) e
    obtain ⟨n2, e2⟩ := hid_at e1 hc
    exact ⟨by simp [n, n2], e2⟩
theorem subL {h h' : List Nat} {st s : Sto} (i : ∀ l, l ∉ h → ∀ c, st[l]? = some c → l ∉ h' ∧ s[l]? = some c) : Sub (HidL h st) (HidL h' s) :=
  ⟨fun l xs e => let ⟨n, e1⟩ := hidL_at (by simp) e; let ⟨n2, e2⟩ := i l n _ e1; hidL_of n2 e2, fun l xs e => let ⟨n, e1⟩ := hidL_at (by simp) e; let ⟨n2, e2⟩ := i l n _ e1; hidL_of n2 e2⟩
def XH (st : Sto) (h : List Nat) (k B : Nat) (d : D) : Prop := ∃ p, toPyX (HidL h st) (k + 1) d = some p ∧ asc p = true ∧ p.depth ≤ k ∧ wt p ≤ B
section
variable {st s : Sto} {h h' : List Nat} {k B : Nat} {d : D}
theorem XH.go (x : XH st h k B d) (i : ∀ l, l ∉ h → ∀ c, st[l]? = some c → l ∉ h' ∧ s[l]? = some c) : XH s h' k B d := let ⟨p, e, z⟩ := x; ⟨p, toPyX_mono (subL i) _ _ _ _ (Nat.le_refl _) e, z⟩
theorem XH.mono {k' B' : Nat} (x : XH st h k B d) (hk : k ≤ k') (hB : B ≤ B') : XH st h k' B' d := let ⟨p, e, z1, z2, z3⟩ := x; ⟨p, toPyX_mono ⟨fun _ _ h => h, fun _ _ h => h⟩ _ _ _ _ (by omega) e, z1, by omega, by omega⟩
theorem XH.xv {b : Nat} (x : XH st [b] k B d) : XV st b k B d := x
theorem all_xh : ∀ {xs : List D}, (∀ x, x ∈ xs → XH st h k B x) → ∃ ps, xs.mapM (toPyX (HidL h st) (k + 1)) = some ps ∧ ascAll ps = true ∧ PyData.depthAll ps ≤ k ∧ wtAll ps ≤ xs.length * (B + 2)
  | [], _ => ⟨[], rfl, rfl, Nat.zero_le _, Nat.zero_le _⟩
  | x :: xs, g => by
    obtain ⟨p, e, a1, a2, a3⟩ := g x (by simp)
    obtain ⟨ps, e', b1, b2, b3⟩ := all_xh (xs := xs) fun y hy => g y (by simp [hy])
    refine ⟨p :: ps, by rw [List.mapM_cons, e, e']; rfl, by simp only [ascAll, a1, b1, Bool.and_self], by simp only [PyData.depthAll]; omega, ?_⟩
    simp only [wtAll, List.length_cons, Nat.succ_mul]
    omega
theorem xh_lst {l : Nat} {xs : List D} {n C : Nat} (hl : st[l]? = some (.lst xs)) (nb : l ∉ h) (g : ∀ x, x ∈ xs → XH st h k B x) (hn : xs.length ≤ n) (hC : 3 + n * (B + 2) ≤ C) : XH st h (k + 1) C (.loc l) := by
  obtain ⟨ps, e, a1, a2, a3⟩ := all_xh g
  have := Nat.mul_le_mul_right (B + 2) hn
  exact ⟨.list ps, by simp only [toPyX, hidL_of nb hl]; rw [e]; rfl, by simp only [asc]; exact a1, by simp only [PyData.depth]; omega, by simp only [wt]; omega⟩
theorem xh_dct0 {l : Nat} (hl : st[l]? = some (.dct [])) (nb : l ∉ h) (hC : 3 ≤ B) : XH st h (k + 1) B (.loc l) :=
  ⟨.dict [], by simp only [toPyX, hidL_of nb hl]; rfl, rfl, by simp only [PyData.depth, PyData.depthKv]; omega, by simp only [wt, wtKv]; omega⟩
theorem xh_dct1 {l : Nat} {x : Str} {i : Int} (hl : st[l]? = some (.dct [(.inr x, .int i)])) (nb : l ∉ h) (hx : asB' x = true) (hi : intOk i = true) (hC : 10 * x.length + 60 ≤ B) : XH st h (k + 1) B (.loc l) :=
  ⟨.dict [(.str x, .int i)], by simp only [toPyX, hidL_of nb hl]; rfl, by simp only [asc, ascKv, hx, hi]; rfl, by simp only [PyData.depth, PyData.depthKv]; omega, by simp only [wt, wtKv]; omega⟩
end
/-! values in which no cell stands -/
def Imm (v : D) : Prop := (∃ p, (∀ s, toPy s 4 v = some p) ∧ (∀ s, toPyX s 4 v = some p) ∧ niceB 3 400 p = true) ∧ ∃ t, (∀ s, tyName s v = some t) ∧ t ≠ "list"
theorem Imm.xh {v : D} {s : Sto} {h : List Nat} (i : Imm v) : XH s h 3 400 v := by
  obtain ⟨⟨p, _, e, hn⟩, _⟩ := i
  simp only [niceB, Bool.and_eq_true, decide_eq_true_eq] at hn
  exact ⟨p, e _, hn.1.1.1, hn.1.1.2, hn.1.2⟩
/-- a thing that is no one's usual, the cells h beside -/
def OdK (h : List Nat) (s : Sto) (v : D) : Prop := Imm v ∨ (∃ l kvs, v = .loc l ∧ l ∉ h ∧ s[l]? = some (.dct kvs) ∧ XH s h 3 400 v) ∨ ∃ l ds, v = .loc l ∧ l ∉ h ∧ (∀ x, x ∈ h → x < l) ∧ s[l]? = some (.lst ds) ∧ ds.length ≤ 1 ∧ ∀ d, d ∈ ds → Imm d
theorem grow_go {b : Nat} {h : List Nat} {s s' : Sto} (hb : b ∈ h) (G : Grow b s s') : ∀ l, l ∉ h → ∀ c, s[l]? = some c → l ∉ h ∧ s'[l]? = some c := fun l n c e => ⟨n, G.get (fun z => n (z ▸ hb)) e⟩
theorem odK_keeps {b : Nat} {h : List Nat} (hb : b ∈ h) : Keeps b (OdK h) := fun s s' v G o => by
  rcases o with o | ⟨l, kvs, e, n, hl, x⟩ | ⟨l, ds, e, n, hx, hl, hn, hd⟩
  · exact .inl o
  · exact .inr (.inl ⟨l, kvs, e, n, G.get (fun z => n (z ▸ hb)) hl, x.go (grow_go hb G)⟩)
  · exact .inr (.inr ⟨l, ds, e, n, hx, G.get (fun z => n (z ▸ hb)) hl, hn, hd⟩)
theorem OdK.xh {h : List Nat} {s : Sto} {v : D} (o : OdK h s v) : XH s h 4 500 v := by
  rcases o with o | ⟨l, kvs, e, n, hl, x⟩ | ⟨l, ds, e, n, hx, hl, hn, hd⟩
  · exact o.xh.mono (by omega) (by omega)
  · exact x.mono (by omega) (by omega)
  · subst e
    exact xh_lst (k := 3) (B := 400) hl n (fun d q => (hd d q).xh) hn (by omega)
section
variable {b : Nat} {st0 : Sto} {h : List Nat} {r : DEnv} {f : Fx}
theorem ge_imm {v : D} (e : ∀ s, f r s = some (v, s)) (i : Imm v) : Ge b st0 (OdK h) r f := ge_run e fun _ _ => .inl i
theorem imm_mk {v : D} {p : PyData} {t : String} (h1 : ∀ s, toPy s 4 v = some p) (h2 : ∀ s, toPyX s 4 v = some p) (h3 : niceB 3 400 p = true) (h4 : ∀ s, tyName s v = some t) (h5 : t ≠ "list") : Imm v := ⟨⟨p, h1, h2, h3⟩, t, h4, h5⟩
theorem ge_newL {g : Fa} (hlt : ∀ x, x ∈ h → x < st0.length) (hb : b ∈ h) (hg : ∀ s, Grow b st0 s → Bag s b → ∃ ds, g r s = some (ds, s) ∧ ds.length ≤ 1 ∧ ∀ d, d ∈ ds → Imm d) : Ge b st0 (OdK h) r (eLst g) := fun s G B => by
  obtain ⟨ds, e, hl, hd⟩ := hg s G B
  rw [wp_lst, wp_run e]
  have hx : ∀ x, x ∈ h → x < s.length := fun x q => Nat.lt_of_lt_of_le (hlt x q) G.1
  refine ⟨Nat.le_trans hl (by decide), .inr (.inr ⟨s.length, ds, rfl, fun q => absurd (hx _ q) (by omega), hx, get_end, hl, hd⟩), B.app, .app⟩
theorem ge_newD {f : Fx} {kvs : List (Key × D)} (hlt : ∀ x, x ∈ h → x < st0.length) (e : ∀ s, f r s = some (.loc s.length, s ++ [.dct kvs])) (hx : ∀ s : Sto, s.length ∉ h → XH (s ++ [.dct kvs]) h 3 400 (.loc s.length)) : Ge b st0 (OdK h) r f := fun s G B => by
  rw [wp_run (e s)]
  have hx2 : ∀ x, x ∈ h → x < s.length := fun x q => Nat.lt_of_lt_of_le (hlt x q) G.1
  have hn : s.length ∉ h := fun q => absurd (hx2 _ q) (by omega)
  exact ⟨.inr (.inl ⟨s.length, kvs, rfl, hn, get_end, hx s hn⟩), B.app, .app⟩
end
end Fe
namespace Fe
open PySem PySem.Spec PyProof.Rows L2
section
variable {b : Nat} {st0 : Sto} {h : List Nat} {r : DEnv}
theorem imm_non : Imm .non := imm_mk (p := .none) (t := "NoneType") (fun _ => rfl) (fun _ => rfl) (by decide +kernel) (fun _ => rfl) (by decide)
theorem imm_bl (k : Bool) : Imm (.bl k) := imm_mk (p := .bool k) (t := "bool") (fun _ => rfl) (fun _ => rfl) (by cases k <;> decide +kernel) (fun _ => rfl) (by decide)
theorem imm_int (i : Int) (hi : niceB 3 400 (.int i) = true) : Imm (.int i) := imm_mk (p := .int i) (t := "int") (fun _ => rfl) (fun _ => rfl) hi (fun _ => rfl) (by decide)
theorem imm_str (x : Str) (hi : niceB 3 400 (.str x) = true) : Imm (.str x) := imm_mk (p := .str x) (t := "str") (fun _ => rfl) (fun _ => rfl) hi (fun _ => rfl) (by decide)
theorem imm_tup {xs : List D} {p : PyData} (h1 : ∀ s, toPy s 4 (.tup xs) = some p) (h2 : ∀ s, toPyX s 4 (.tup xs) = some p) (hi : niceB 3 400 p = true) : Imm (.tup xs) := imm_mk (t := "tuple") h1 h2 hi (fun _ => rfl) (by decide)
theorem run_tup {g : Fa} {ds : List D} (hg : ∀ s, g r s = some (ds, s)) (hs : small ds = true) : ∀ s, eTup g r s = some (.tup ds, s) := fun s => by
  unfold eTup bnd
  rw [hg s]
  simp only [hs, if_true]
theorem odd1_h (hlt : ∀ x, x ∈ h → x < st0.length) (hb : b ∈ h) : Ga b st0 (OdK h) r (aCons (eC .non) (aCons (eC (.bl true)) (aCons (eC (.bl false)) (aCons (eC (.int 0)) (aCons (eC (.int 1)) (aCons (eUn gNeg (eC (.int 1))) (aCons (eBin gPow (eC (.int 10)) (eC (.int 39))) (aCons (eC (.str "")) (aCons (eC (.str "a")) (aCons (eC (.str "no")) (aCons (eC (.str "thing")) (aCons (eC (.str "word")) (aCons (eTup aNil) (aCons (eLst aNil) (aCons eDict0 (aCons (eTup (aCons (eC (.str "thing")) aNil)) (aCons (eTup (aCons (eC (.str "hole")) aNil)) aNil))))))))))))))))) 17 := by
  have kp : Keeps b (OdK h) := odK_keeps hb
  have str : ∀ x : Str, niceB 3 400 (.str x) = true → Ge b st0 (OdK h) r (eC (.str x)) := fun x hx => ge_imm (fun _ => rfl) (imm_str x hx)
  refine ga_cons kp (ge_imm (fun _ => rfl) imm_non) (ga_cons kp (ge_imm (fun _ => rfl) (imm_bl true)) (ga_cons kp (ge_imm (fun _ => rfl) (imm_bl false)) (ga_cons kp (ge_imm (fun _ => rfl) (imm_int 0 (by decide +kernel))) (ga_cons kp (ge_imm (fun _ => rfl) (imm_int 1 (by decide +kernel)))
    (ga_cons kp (ge_imm (run_neg r) (imm_int (-1) (by decide +kernel))) (ga_cons kp (ge_imm (run_pow r) (imm_int (10 ^ 39) (by decide +kernel))) (ga_cons kp (str "" (by decide +kernel)) (ga_cons kp (str "a" (by decide +kernel)) (ga_cons kp (str "no" (by decide +kernel)) (ga_cons kp (str "thing" (by decide +kernel)) (ga_cons kp (str "word" (by decide +kernel))
    (ga_cons kp (ge_imm (fun _ => rfl) (imm_tup (p := .tuple []) (fun _ => rfl) (fun _ => rfl) (by decide +kernel))) (ga_cons kp ?_ (ga_cons kp ?_ (ga_cons kp (ge_imm (fun _ => rfl) (imm_tup (p := .tuple [.str "thing"]) (fun _ => rfl) (fun _ => rfl) (by decide +kernel))) (ga_cons kp (ge_imm (fun _ => rfl) (imm_tup (p := .tuple [.str "hole"]) (fun _ => rfl) (fun _ => rfl) (by decide +kernel))) ga_nil))))))))))))))))
  · exact ge_newL hlt hb fun s _ _ => ⟨[], rfl, by simp, fun d q => nomatch q⟩
  · exact ge_newD (kvs := []) hlt (fun _ => rfl) fun s hn => xh_dct0 (k := 2) get_end hn (by omega)
theorem odd2_h (hlt : ∀ x, x ∈ h → x < st0.length) (hb : b ∈ h) : Ga b st0 (OdK h) r (aCons (eTup (aCons (eC (.str "raw")) (aCons (eC (.str "truth")) (aCons (eC (.str "yes")) aNil)))) (aCons (eLst (aCons (eC (.str "no")) aNil)) (aCons (eDict1 "a" (.int 1)) (aCons (eC (.str "a\n")) (aCons (eTup (aCons (eTup (aCons (eC (.str "a")) (aCons (eC (.str "b")) aNil))) aNil)) (aCons (eTup (aCons (eC (.str "a")) (aCons (eC (.str "b")) (aCons (eTup (aCons (eC (.str "c")) aNil)) aNil)))) (aCons (eC (.str "abcdefghijklm")) aNil))))))) 7 := by
  have kp : Keeps b (OdK h) := odK_keeps hb
  have str : ∀ x : Str, niceB 3 400 (.str x) = true → Ge b st0 (OdK h) r (eC (.str x)) := fun x hx => ge_imm (fun _ => rfl) (imm_str x hx)
  refine ga_cons kp (ge_imm (fun _ => rfl) (imm_tup (p := .tuple [.str "raw", .str "truth", .str "yes"]) (fun _ => rfl) (fun _ => rfl) (by decide +kernel))) (ga_cons kp ?_ (ga_cons kp ?_ (ga_cons kp (str "a\n" (by decide +kernel))
    (ga_cons kp (ge_imm (fun _ => rfl) (imm_tup (p := .tuple [.tuple [.str "a", .str "b"]]) (fun _ => rfl) (fun _ => rfl) (by decide +kernel))) (ga_cons kp (ge_imm (fun _ => rfl) (imm_tup (p := .tuple [.str "a", .str "b", .tuple [.str "c"]]) (fun _ => rfl) (fun _ => rfl) (by decide +kernel))) (ga_cons kp (str "abcdefghijklm" (by decide +kernel)) ga_nil))))))
  · exact ge_newL hlt hb fun s _ _ => ⟨[.str "no"], rfl, by simp, fun d q => by
      obtain rfl : d = .str "no" := by simpa using q
      exact imm_str _ (by decide +kernel)⟩
  · exact ge_newD (kvs := [(.inr "a", .int 1)]) hlt (fun _ => rfl) fun s hn => xh_dct1 (k := 2) get_end hn (by decide +kernel) (by decide +kernel) (by decide +kernel)
theorem odd_h {st : Sto} (B : Bag st b) (hlt : ∀ x, x ∈ h → x < st.length) (hb : b ∈ h) : Wp (m_odd [.loc b]) st fun v s => OdK h s v ∧ Bag s b ∧ Grow b st s := by
  have kp : Keeps b (OdK h) := odK_keeps hb
  unfold m_odd
  rw [wp_runB]
  show Wp (sSeq _ _ [some (.loc b), none]) st _
  rw [wp_seq, wp_sAsg]
  refine (ge_list kp (odd1_h hlt hb) (by omega) st .refl B).mono fun v s ⟨⟨l, ds, e, nb, hl, p, len⟩, B1, G1⟩ => ?_
  subst e
  rw [wp_gtName]
  show Wp (sRet _ [some (.loc b), some (.loc l)]) s _
  rw [wp_sRet]
  have hlt2 : ∀ x, x ∈ h → x < s.length := fun x q => Nat.lt_of_lt_of_le (hlt x q) G1.1
  have h2 := ge_list (r := [some (.loc b), some (.loc l)]) kp (odd2_h (b := b) (st0 := s) hlt2 hb) (by omega)
  have h1 : Ge b s (fun s v => ∃ l ds, v = .loc l ∧ l ≠ b ∧ s[l]? = some (.lst ds) ∧ (∀ d, d ∈ ds → OdK h s d) ∧ ds.length = 17) [some (.loc b), some (.loc l)] (eVar 1) := ge_run (fun _ => rfl) fun s' G => ⟨l, ds, rfl, nb, G.get nb hl, fun d hd => kp _ _ _ G (p d hd), len⟩
  exact (ge_some (i := 0) kp rfl (some_add kp h1 h2 (by omega)) (by omega) (by omega) s .refl B1).mono fun v s2 ⟨p2, B2, G2⟩ => ⟨p2, B2, G1.trans G2⟩
end
/-! ## one of four: [1], [], [a thing], a thing -/
def OneK (b : Nat) (s : Sto) (v : D) : Prop := Imm v ∨ (∃ l kvs, v = .loc l ∧ l ≠ b ∧ s[l]? = some (.dct kvs) ∧ XH s [b] 3 400 v) ∨ ∃ l ds, v = .loc l ∧ b < l ∧ s[l]? = some (.lst ds) ∧ ds.length ≤ 1 ∧ ∀ d, d ∈ ds → XH s [b, l] 4 500 d
theorem oneK_keeps {b : Nat} : Keeps b (OneK b) := fun s s' v G o => by
  rcases o with o | ⟨l, kvs, e, n, hl, x⟩ | ⟨l, ds, e, n, hl, hn, hd⟩
  · exact .inl o
  · exact .inr (.inl ⟨l, kvs, e, n, G.get n hl, x.go (grow_go (by simp) G)⟩)
  · exact .inr (.inr ⟨l, ds, e, n, G.get (by omega) hl, hn, fun d q => (hd d q).go (grow_go (by simp) G)⟩)
theorem OdK.one {b : Nat} {s : Sto} {v : D} (o : OdK [b] s v) : OneK b s v := by
  rcases o with o | ⟨l, kvs, e, n, hl, x⟩ | ⟨l, ds, e, n, hx, hl, hn, hd⟩
  · exact .inl o
  · exact .inr (.inl ⟨l, kvs, e, by simpa using n, hl, x⟩)
  · exact .inr (.inr ⟨l, ds, e, hx b (by simp), hl, hn, fun d q => (hd d q).xh.mono (by omega) (by omega)⟩)
def l_four : Fx := eLst (aCons (eLst (aCons (eC (.int 1)) aNil)) (aCons (eLst aNil) (aCons (eLst (aCons (eCall m_odd (aCons (eVar 1) aNil)) aNil)) (aCons (eCall m_odd (aCons (eVar 1) aNil)) aNil))))
theorem new_sep {s : Sto} {b : Nat} {c : Cell} {v : D} {k B : Nat} (x : XH s [b] k B v) : XH (s ++ [c]) [b, s.length] k B v := x.go fun l n c' e => ⟨by
    have : l < s.length := (List.getElem?_eq_some_iff.mp e).1
    have n' : l ≠ b := by simpa using n
    simp only [List.mem_cons, List.not_mem_nil, or_false, not_or]
    exact ⟨n', by omega⟩, get_app e⟩
theorem one_ok {st0 : Sto} {b : Nat} {r : DEnv} (hr : r[1]? = some (some (.loc b))) (B : Bag st0 b) : Wp (eCall m_some (aCons (eVar 1) (aCons l_four aNil)) r) st0 fun v s => OneK b s v ∧ Bag s b ∧ Grow b st0 s := by
  have od : Ge b st0 (OdK [b]) r (eCall m_odd (aCons (eVar 1) aNil)) := fun s G B => by
    rw [wp_call]
    simp only [wp_cons, wp_nil, wp_var, hr, Option.some.injEq, exists_eq_left']
    exact odd_h B (fun x q => by
      obtain rfl : x = b := by simpa using q
      exact B.lt) (by simp)
  have sing : ∀ f, Ge b st0 (OdK [b]) r f → Ge b st0 (OneK b) r (eLst (aCons f aNil)) := fun f hf s G B => by
    rw [wp_lst, wp_cons]
    refine (hf s G B).mono fun v s1 ⟨o, B1, G1⟩ => ?_
    rw [wp_nil]
    exact ⟨by show 1 ≤ sizeLine; decide, .inr (.inr ⟨s1.length, [v], rfl, B1.lt, get_end, by simp, fun d q => by
      obtain rfl : d = v := by simpa using q
      exact new_sep o.xh⟩), B1.app, G1.app'⟩
  refine ge_some (m := 4) (i := 1) oneK_keeps hr (ge_list oneK_keeps (ga_cons oneK_keeps (sing _ (ge_imm (fun _ => rfl) (imm_int 1 (by decide +kernel)))) (ga_cons oneK_keeps ?_ (ga_cons oneK_keeps (sing _ od) (ga_cons oneK_keeps (od.imp fun s v o => o.one) ga_nil)))) (by omega)) (by omega) (by omega) st0 .refl B
  intro s G B
  rw [wp_lst, wp_nil]
  exact ⟨by show 0 ≤ sizeLine; decide, .inr (.inr ⟨s.length, [], rfl, B.lt, get_end, by simp, fun d q => nomatch q⟩), B.app, .app⟩
end Fe
namespace Fe
open PySem PySem.Spec PyProof.Rows L2 RZ
/-! ## zip of a tuple and a list (true: a tuple) -/
def SqB (k : Bool) (K : PySem.W.Frag) (H : Hp) (a : Addr) (xs : List V) : Prop := match k with
  | true => SqT K H a xs
  | false => SqL K H a xs
def IsB (k : Bool) (h : Heap) (a : Addr) (its : Array Value) : Prop := match k with
  | true => h.IsTuple a its
  | false => h.IsList a its
def ItB (k : Bool) (h : Heap) (it a : Addr) (i : Nat) : Prop := match k with
  | true => h.IsTupleIter it a i
  | false => h.IsListIter it a i
theorem drawsB {P : Program} {w : World} {A : Around} (hA : A.handled = none) (it t : Addr) (ht : t ≠ it) (items : Array Value) : ∀ k : Bool, Draws P w A it [it, t] items.size (fun i v => items[i]? = some v) fun i h => ItB k h it t i ∧ IsB k h t items
  | true => Draws.tuple hA it t ht items
  | false => Draws.list hA it t ht items
theorem SqB.is {k : Bool} {X : Cx} {pins : List (Addr × Obj)} {σ : L2.St} {H : Hp} {s : Shared} {a : Addr} {xs : List V} (I : Inv X pins σ H s) (h : SqB k X.K H a xs) : ∃ its, Vals xs its ∧ IsB k s.heap a its.toArray ∧ a < s.heap.objs.size := by
  cases k with
  | true =>
    obtain ⟨its, r, p, _⟩ := I.tuple h
    obtain ⟨o, ho, _⟩ := id p
    exact ⟨its, r, p, Heap.lt_size ho⟩
  | false =>
    obtain ⟨its, r, p, _⟩ := I.list h
    exact ⟨its, r, p.isList, p.lt⟩
theorem SqB.inj {k : Bool} {X : Cx} {pins : List (Addr × Obj)} {σ : L2.St} {H : Hp} {s : Shared} {a : Addr} {xs ys : List V} (I : Inv X pins σ H s) (h : SqB k X.K H a xs) (h' : SqB k X.K H a ys) : xs = ys := by
  cases k with
  | true => exact I.tuple_inj h h'
  | false => exact I.list_inj h h'
theorem ItB.live {k : Bool} {h : Heap} {it a : Addr} {i : Nat} (st : ItB k h it a i) : ∃ o, h.get? it = some o ∧ ∀ v, o.data ≠ .cell v := by
  cases k with
  | true => obtain ⟨o, e, _, d⟩ := st; exact ⟨o, e, fun v q => by rw [d] at q; cases q⟩
  | false => obtain ⟨o, e, _, d⟩ := st; exact ⟨o, e, fun v q => by rw [d] at q; cases q⟩
theorem ItB.at {k : Bool} {h h' : Heap} {it a : Addr} {i : Nat} (st : ItB k h it a i) (f : ∀ o, h.get? it = some o → h'.get? it = some o) : ItB k h' it a i := by
  cases k with
  | true => exact Heap.IsTupleIter.at st f
  | false => exact Heap.IsListIter.at st f
def ItzB (k1 k2 : Bool) (K : PySem.W.Frag) (a b : Addr) : It :=
  ⟨fun i H => ∃ (xs ys : List V) (x y : V), SqB k1 K H a xs ∧ SqB k2 K H b ys ∧ xs[i]? = some x ∧ ys[i]? = some y,
    fun i H v H' => ∃ T x y, v = .ref T ∧ H T = none ∧ H' = upd H T (.tup [x, y]) ∧ (∀ xs, SqB k1 K H a xs → xs[i]? = some x) ∧ ∀ ys, SqB k2 K H b ys → ys[i]? = some y,
    fun i H => ∃ xs ys : List V, SqB k1 K H a xs ∧ SqB k2 K H b ys ∧ i ≤ xs.length ∧ i ≤ ys.length ∧ (i = xs.length ∨ i = ys.length)⟩
theorem sep_of {a b z TI TO i1 i2 : Addr} (D : ZipApart z TI TO i1 i2 a b) : ZipSep2 z TI TO i1 i2 [i1, a] [i2, b] :=
  ⟨D.TIz, D.TOz, D.TITO, D.TIi1, by simp, by simp [D.i1z.symm, D.l1z.symm], by simp [D.TOi1, D.l1TO.symm], D.TIi2, by simp, by simp [D.i2z.symm, D.l2z.symm], by simp [D.TOi2, D.l2TO.symm], by simp [D.i12, D.l2i1.symm], by simp [D.i12.symm, D.l1i2.symm]⟩
theorem five {c z TI TO i1 i2 : Addr} {P : Addr → Prop} (hm : c ∈ [z, TI, TO, i1, i2]) (p1 : P z) (p2 : P TI) (p3 : P TO) (p4 : P i1) (p5 : P i2) : P c := by
  simp only [List.mem_cons, List.not_mem_nil, or_false] at hm
  rcases hm with g | g | g | g | g <;> rw [g] <;> assumption
theorem off5 {c z TI TO i1 i2 : Addr} (off : c ∉ [z, TI, TO, i1, i2]) : c ≠ z ∧ c ≠ TO ∧ c ≠ i1 ∧ c ≠ i2 := by
  simp only [List.mem_cons, List.not_mem_nil, or_false, not_or] at off
  exact ⟨off.1, off.2.2.1, off.2.2.2.1, off.2.2.2.2⟩
theorem turn_zipB {k1 k2 : Bool} {P : Program} {w : World} {K : PySem.W.Frag} {elts : List Expr} {kk : Nat} {tpos : Pos} {a b z TI TO i1 i2 : Addr} (D : ZipApart z TI TO i1 i2 a b) :
    Turn P w K (.Tuple elts kk tpos) (ItzB k1 k2 K a b) [z, TI, TO, i1, i2] z (fun i h => IsZip h z TI TO .none ∧ IsPair h TI (.ref i1) (.ref i2) ∧ (∃ x y, IsPair h TO x y) ∧ ItB k1 h i1 a i ∧ ItB k2 h i2 b i) where
  mem := List.mem_cons_self ..
  obj := fun i h ⟨zp, inn, ⟨_, _, out⟩, st1, st2⟩ c hm =>
    five (P := fun c => ∃ o, h.get? c = some o ∧ ∀ v, o.data ≠ .cell v) hm ⟨_, zp, nofun⟩ ⟨_, inn, nofun⟩ ⟨_, out, nofun⟩ st1.live st2.live
  keep := fun i h h' ⟨zp, inn, ⟨_, _, out⟩, st1, st2⟩ up =>
    ⟨up _ (by simp) _ zp, up _ (by simp) _ inn, ⟨_, _, up _ (by simp) _ out⟩, st1.at (up i1 (by simp)), st2.at (up i2 (by simp))⟩
  item := by
    intro X eP eW eK calm i pins s σ H E I apart ⟨zp, inn, ⟨_, _, out⟩, st1, st2⟩ ⟨xs, ys, x, y, qx, qy, gx, gy⟩
    subst eP eW eK
    obtain ⟨us, rx, px, _⟩ := SqB.is I qx
    obtain ⟨ws, ry, py, _⟩ := SqB.is I qy
    obtain ⟨u, gu, ru⟩ := rx.get gx
    obtain ⟨v, gv, rv⟩ := ry.get gy
    have low : z < s.heap.objs.size := Heap.lt_size zp
    have quiet : X.A.in1.handled = none := I.ok.hd calm
    refine wpAny_pyNext_zipD2_item (sep_of D) (drawsB quiet i1 a D.l1i1 us.toArray k1) (drawsB quiet i2 b D.l2i2 ws.toArray k2) zp inn out ⟨st1, px⟩ ⟨st2, py⟩ (i := i)
      (by have := (List.getElem?_eq_some_iff.mp gu).1; simpa using this) (by have := (List.getElem?_eq_some_iff.mp gv).1; simpa using this) fun u' v' h1 tk eu ev zp1 out1 n1 n2 top _ same => ?_
    obtain rfl : u = u' := by simpa [gu] using eu
    obtain rfl : v = v' := by simpa [gv] using ev
    refine ⟨_, rfl, wpAny_letOwnedTupleGo_zip (s := { s with heap := h1, toks := tk }) zp1 fun h2 zp2 but => ?_⟩
    have pair : h2.get? s.heap.objs.size = some { cls := .type "tuple", data := .seq #[u, v] } := (but.2 _ (Nat.ne_of_gt low)).trans top
    have made : ObjOk X.prog X.w (upd H s.heap.objs.size (.tup [x, y])) h2 s.heap.objs.size (.tup [x, y]) := ⟨by show 2 ≤ sizeLine; decide, _, .cons ru (.cons rv .nil), ⟨_, pair, rfl, _, rfl⟩⟩
    have stay : ∀ (c : Addr) (o : Obj), c ∉ [z, TI, TO, i1, i2] → s.heap.get? c = some o → h2.get? c = some o := fun c o off g =>
      let ⟨o1, o2, o3, o4⟩ := off5 off; (but.2 c o1).trans (same c o o1 o2 o3 o4 g)
    refine ⟨.ref s.heap.objs.size, _, I.turnedNew (t' := tk) stay apart (Nat.le_refl _) made, rfl, ⟨_, x, y, rfl, I.hok.fresh (Nat.le_refl _), rfl, fun l hl => (SqB.inj I hl qx).symm ▸ gx, fun l hl => (SqB.inj I hl qy).symm ▸ gy⟩,
      ⟨zp2, (but.2 _ D.TIz).trans (same _ _ D.TIz D.TITO D.TIi1 D.TIi2 inn), ⟨u, v, (but.2 _ D.TOz).trans out1⟩, n1.1.at fun o g => (but.2 _ D.i1z).trans g, n2.1.at fun o g => (but.2 _ D.i2z).trans g⟩, fun c hm => ?_⟩
    have lt : c < s.heap.objs.size := five (P := fun c => c < s.heap.objs.size) hm low (Heap.lt_size inn) (Heap.lt_size out) (let ⟨_, g, _⟩ := st1.live; Heap.lt_size g) (let ⟨_, g, _⟩ := st2.live; Heap.lt_size g)
    exact (upd_ne (Nat.ne_of_lt lt)).trans (apart c hm).1
  done := by
    intro X eP eW eK calm i pins s σ H E I apart ⟨zp, inn, ⟨_, _, out⟩, st1, st2⟩ ⟨xs, ys, qx, qy, le1, le2, fin⟩
    subst eP eW eK
    obtain ⟨us, rx, px, _⟩ := SqB.is I qx
    obtain ⟨ws, ry, py, _⟩ := SqB.is I qy
    have n1 := rx.length
    have n2 := ry.length
    have quiet : X.A.in1.handled = none := I.ok.hd calm
    exact wpAny_pyNext_zipD2_end (sep_of D) (drawsB quiet i1 a D.l1i1 us.toArray k1) (drawsB quiet i2 b D.l2i2 ws.toArray k2) zp inn out ⟨st1, px⟩ ⟨st2, py⟩ (i := i) (by simp; omega) (by simp; omega) (by simp; omega) fun h' tk same =>
      ⟨rfl, I.turnedL (t' := tk) (ch := [z, TI, TO, i1, i2]) (fun c o off g => let ⟨o1, o2, o3, o4⟩ := off5 off; same c o o1 o2 o3 o4 g) apart⟩
  self := fun A i s Q E st q => wpAny_pyIter_zip (And.left st) q
theorem beginsB (a : Addr) (items : Array Value) : ∀ k : Bool, Begins (.ref a) { cls := .type (match k with | true => "tuple_iterator" | false => "list_iterator"), data := .fields #[.ref a, .int 0 0] } fun h => IsB k h a items
  | true => begins_tuple a items
  | false => begins_list a items
theorem itB_new {k : Bool} {h : Heap} {it a : Addr} (e : h.get? it = some { cls := .type (match k with | true => "tuple_iterator" | false => "list_iterator"), data := .fields #[.ref a, .int 0 0] }) : ItB k h it a 0 := by
  cases k with
  | true => exact ⟨_, e, rfl, rfl⟩
  | false => exact ⟨_, e, rfl, rfl⟩
def iZipBT (K : PySem.W.Frag) (ta : TA) : TI := fun σ H R => ta σ H fun vs H1 => ∃ k1 k2 a b xs ys, vs = [.ref a, .ref b] ∧ SqB k1 K H1 a xs ∧ SqB k2 K H1 b ys ∧ R (ItzB k1 k2 K a b) H1
theorem pi_zipB {X : Cx} {e e2 : Expr} {ta : TA} {p pos tpos : Pos} {elts : List Expr} {kk : Nat} (gl : Gl X "zip") (un : X.mg "zip" = none) (ha : PA X [e, e2] ta) (stars : starEach [e, e2] X.env = (false, eval e X.env) :: starEach [e2] X.env := by rfl)
    (plain : (backTo pos (starEach [e2] X.env)).any (·.1) = false := by rfl) : PI X (.Tuple elts kk tpos) (.Call (.Name "zip" p) [e, e2] [] pos) (iZipBT X.K ta) := by
  constructor
  intro pins s σ H R I h
  refine Call_ (ld_blt I gl un PyProof.Rows.boot_zip (PyProof.Rows.callWith_type1 (thn (ha.run pos pins s σ H _ I h) ?_) stars plain))
  rintro us t ⟨vs, H1, I1, rs, k1, k2, a, b, xs, ys, rfl, qx, qy, q⟩
  obtain ⟨u1, u2, rfl, r1, r2⟩ := vals2 rs
  cases r1
  cases r2
  obtain ⟨is1, _, p1, lt1⟩ := SqB.is I1 qx
  obtain ⟨is2, _, p2, lt2⟩ := SqB.is I1 qy
  refine zip_begins2 (beginsB a is1.toArray k1) (beginsB b is2.toArray k2) p1 p2 fun h' zp inn out g1 g2 _ same => wpAny_pyIter_zip zp ?_
  refine ⟨_, [t.heap.objs.size + 4, t.heap.objs.size + 2, t.heap.objs.size + 3, t.heap.objs.size, t.heap.objs.size + 1], _, _, H1, rfl, I1.kept (t' := t.toks) same, turn_zipB (PySem.W.ktu_apart t.heap.objs.size a b lt1 lt2), ⟨zp, inn, ⟨_, _, out⟩, itB_new g1, itB_new g2⟩, fun c hm => ?_, q⟩
  have le : t.heap.objs.size ≤ c := five (P := fun c => t.heap.objs.size ≤ c) hm (Nat.le_add_right _ _) (Nat.le_add_right _ _) (Nat.le_add_right _ _) (Nat.le_refl _) (Nat.le_add_right _ _)
  exact I1.fpOk le (I1.hok.fresh le)
/-! by values -/
def seqB (st : Sto) : D → Option (Bool × List D × (Sto → Bool))
  | .tup xs => some (true, xs, okAll)
  | .ptp xs => some (true, xs, okAll)
  | .loc l => match st[l]? with
    | some (.lst xs) => some (false, xs, okLst l xs)
    | _ => none
  | _ => none
def SideOk (K : PySem.W.Frag) (m : List Addr) (H : Hp) (k : Bool) (a : Addr) (xs : List D) (ok : Sto → Bool) : Prop :=
  ∀ m1 H1 st, Lw m H m1 H1 → Tie K m1 H1 st → ok st = true → ∃ vs, SqB k K H1 a vs ∧ RpL K m1 H1 xs vs
theorem side_of {K : PySem.W.Frag} {m : List Addr} {H : Hp} {st : Sto} {d : D} {v : V} {k : Bool} {xs : List D} {ok : Sto → Bool} (T : Tie K m H st) (r : Rp K m H d v) (h : seqB st d = some (k, xs, ok)) : ∃ a vs, v = .ref a ∧ SqB k K H a vs ∧ SideOk K m H k a xs ok := by
  cases d with
  | tup ys =>
    cases h
    cases r with | tup hq rr => exact ⟨_, _, rfl, SqT.of hq, fun m1 H1 s le _ _ => ⟨_, SqT.monoW le (SqT.of hq), RpL.monoW le _ _ rr⟩⟩
  | ptp ys =>
    cases h
    cases r with | ptp hq rr => exact ⟨_, _, rfl, hq.sq, fun m1 H1 s le _ _ => ⟨_, SqT.monoW le hq.sq, RpL.monoW le _ _ rr⟩⟩
  | loc l =>
    simp only [seqB] at h
    split at h
    · rename_i zs hc
      cases h
      obtain ⟨a, vs, e, hl, hv, rr⟩ := T.list hc r
      subst e
      refine ⟨a, vs, rfl, SqL.of hv, fun m1 H1 s le T1 hok => ?_⟩
      obtain ⟨a', ws, e, _, hw, r1⟩ := T1.list (okLst_some hok) (.loc (le.pre _ _ hl))
      cases e
      exact ⟨ws, SqL.of hw, r1⟩
    · cases h
  | _ => cases h
theorem jok_zipB {K : PySem.W.Frag} {m : List Addr} {H : Hp} {k1 k2 : Bool} {a b : Addr} {xs ys : List D} {ok1 ok2 : Sto → Bool} (h1 : SideOk K m H k1 a xs ok1) (h2 : SideOk K m H k2 b ys ok2) : JOk K (ItzB k1 k2 K a b) m H (pairs xs ys) fun st => ok1 st && ok2 st := by
  intro m1 H1 st le T hok i
  rw [Bool.and_eq_true] at hok
  obtain ⟨vs, q1, r1⟩ := h1 m1 H1 st le T hok.1
  obtain ⟨ws, q2, r3⟩ := h2 m1 H1 st le T hok.2
  refine ⟨fun d hd => ?_, fun hi => ⟨vs, ws, q1, q2, ?_⟩⟩
  · obtain ⟨x, y, hx, hy, rfl⟩ := pairs_get hd
    obtain ⟨v, hv, rv⟩ := r1.get hx
    obtain ⟨w, hw, rw'⟩ := r3.get hy
    refine ⟨⟨vs, ws, v, w, q1, q2, hv, hw⟩, fun z H2 yl => ?_⟩
    obtain ⟨Tp, v', w', rfl, nT, rfl, f1, f2⟩ := yl
    have e1 := f1 vs q1
    have e2 := f2 ws q2
    rw [hv] at e1; cases e1
    rw [hw] at e2; cases e2
    exact ⟨Le.new nT, T.new nT, .tup upd_same (.cons (Rp.mono (Le.new nT) _ _ rv) (.cons (Rp.mono (Le.new nT) _ _ rw') .nil))⟩
  · rw [pairs_len] at hi
    rw [← r1.length, ← r3.length]
    omega
/-- zip of two things, each a tuple or a list -/
def iZipM (f : Fa) : Fi := fun r => bnd (f r) fun ds st => match ds with
  | [x, y] => match seqB st x, seqB st y with
    | some (_, xs, ok1), some (_, ys, ok2) => some ((pairs xs ys, fun s => ok1 s && ok2 s), st)
    | _, _ => none
  | _ => none
theorem fi_zipM {X : Cx} {e e2 : Expr} {f : Fa} {p pos tpos : Pos} {elts : List Expr} {kk : Nat} (hg : Gl X "zip") (hm : X.mg "zip" = none) (ha : FA X [e, e2] f)
    (hs : starEach [e, e2] X.env = (false, eval e X.env) :: starEach [e2] X.env := by rfl) (hpl : (backTo pos (starEach [e2] X.env)).any (·.1) = false := by rfl) : FI X (.Tuple elts kk tpos) (.Call (.Name "zip" p) [e, e2] [] pos) (iZipM f) := by
  obtain ⟨t, pa, sa⟩ := ha
  refine ⟨_, pi_zipB hg hm pa hs hpl, fun m H st r σ R ds ok st' T E hf post => ?_⟩
  obtain ⟨es, s1, h1, hf⟩ := bnd_some hf
  match es, h1, hf with
  | [x, y], h1, hf =>
    simp only at hf
    split at hf
    · rename_i k1 xs ok1 k2 ys ok2 e1 e2
      cases hf
      refine sa m H st r σ _ _ _ T E h1 fun m1 H1 vs l1 T1 rv => ?_
      obtain ⟨v, w, rfl, rv, rw'⟩ := rv.two
      obtain ⟨a, us, ea, qa, sa'⟩ := side_of T1 rv e1
      obtain ⟨b, ws, eb, qb, sb'⟩ := side_of T1 rw' e2
      subst ea eb
      exact ⟨k1, k2, a, b, us, ws, rfl, qa, qb, post m1 H1 _ l1 T1 (jok_zipB sa' sb')⟩
    · cases hf
  | [], h1, hf => cases hf
  | [_], h1, hf => cases hf
  | _ :: _ :: _ :: _, h1, hf => cases hf
end Fe
namespace Fe
open PySem PySem.Spec PyProof.Rows L2
/-! ## str(int) -/
def gStrI : List D → M D := fun ds st => match ds with
  | [.int i] => if i.natAbs.log2 < 1920 then some (.str (toString i), st) else none
  | _ => none
theorem sr_strI {K : PySem.W.Frag} : SRs K (fun xs H Q => ∃ i, xs = [.int i] ∧ i.natAbs.log2 < 1920 ∧ Q (.str (toString i)) H) gStrI := by
  intro m H st vs ds Q d st' T r h post
  match ds, r with
  | [.int i], .cons (.int _) .nil =>
    simp only [gStrI] at h
    split at h
    · rename_i hz; cases h; exact ⟨i, rfl, hz, post m H _ .refl T (.str _)⟩
    · cases h
/-! ## what a module has at its top: tuples of texts, ints, None, of such -/
def KD (K : PySem.W.Frag) (d : D) (u : Value) : Prop := ∃ v, RelV v u ∧ ∀ m H, Rp K m H d v
def KDL (K : PySem.W.Frag) (ds : List D) (us : List Value) : Prop := ∃ vs, Vals vs us ∧ ∀ m H, RpL K m H ds vs
variable {K : PySem.W.Frag}
theorem kd_non : KD K .non .none := ⟨.non, rfl, fun _ _ => .non⟩
theorem kd_bl (b : Bool) : KD K (.bl b) (.bool b) := ⟨.bl b, rfl, fun _ _ => .bl b⟩
theorem kd_int (i : Int) (t : Tok) : KD K (.int i) (.int i t) := ⟨.int i, ⟨_, rfl⟩, fun _ _ => .int i⟩
theorem kd_str (x : Str) (t : Tok) : KD K (.str x) (.str x t) := ⟨.str x, ⟨_, rfl⟩, fun _ _ => .str x⟩
theorem kdl_nil : KDL K [] [] := ⟨[], .nil, fun _ _ => .nil⟩
theorem kdl_cons {d : D} {ds : List D} {u : Value} {us : List Value} (h : KD K d u) (t : KDL K ds us) : KDL K (d :: ds) (u :: us) := by
  obtain ⟨v, r, p⟩ := h
  obtain ⟨vs, rs, ps⟩ := t
  exact ⟨v :: vs, .cons r rs, fun m H => .cons (p m H) (ps m H)⟩
theorem kd_tup {ds : List D} {its : List Value} {a : Addr} {n : Nat} {sl : Array (Option Value)} (e : K.lookup a = some ⟨.type "tuple", none, .seq its.toArray n, sl⟩) (hz : its.length ≤ 1000) (h : KDL K ds its) : KD K (.ptp ds) (.ref a) := by
  obtain ⟨vs, r, p⟩ := h
  exact ⟨.ref a, rfl, fun m H => .ptp (.inr ⟨_, its.toArray, n, e, rfl, rfl, rfl, by rw [sizeLine_eq]; simp; omega, by simpa using r⟩) (p m H)⟩
def GlobD (K : PySem.W.Frag) (mg : Str → Option Value) (x : Str) (d : D) : Prop := ∃ u, mg x = some u ∧ KD K d u
theorem fe_globD {X : Cx} {x : Str} {d : D} {pos : Pos} (hg : Gl X x) (hm : GlobD X.K X.mg x d) (hdb : (x == ("__debug__" : Str)) = false := by decide) : FE X (.Name x pos) (eC d) := by
  obtain ⟨u, e, v, r, p⟩ := hm
  exact fe_glob (v := v) hg e r p hdb
end Fe
namespace Fe
open PySem PySem.Spec PyProof.Rows L2
/-! ## more of values, sorting, the bag's making -/
theorem val_str {st : Sto} {b : Nat} {x : Str} (h : Val st b (.str x)) : x.length ≤ 1000000 := by
  rcases h with ⟨p, e, _, _, hw, _⟩ | ⟨p, e, _, _, hw⟩ <;> cases e <;> simp only [wt] at hw <;> omega
theorem mem_paired {α β : Type} {R : α → β → Prop} {x : α} : ∀ {xs : List α} {ys : List β}, Paired R xs ys → x ∈ xs → ∃ y, R x y
  | _, _, .cons h t, hm => by
    rcases List.mem_cons.mp hm with e | hm
    · subst e; exact ⟨_, h⟩
    · exact mem_paired t hm
theorem paired_len {α β : Type} {R : α → β → Prop} : ∀ {xs : List α} {ys : List β}, Paired R xs ys → xs.length = ys.length
  | _, _, .nil => rfl
  | _, _, .cons _ t => by rw [List.length_cons, List.length_cons, paired_len t]
theorem wt_all_len : ∀ ps : List PyData, 2 * ps.length ≤ wtAll ps
  | [] => Nat.le_refl _
  | x :: xs => by have := wt_all_len xs; simp only [wtAll, List.length_cons]; omega
theorem val_tup {st : Sto} {b : Nat} {xs : List D} (h : Val st b (.tup xs)) : xs.length ≤ 1000000 ∧ ∀ x, x ∈ xs → ∃ t, tyName st x = some t := by
  rcases h with ⟨p, e, _, _, hw, _⟩ | ⟨p, e, _, _, hw⟩
  · have e2 := toPy_mono (s' := st) Sub.hid _ 70 _ _ (by omega) e
    simp only [toPy] at e2
    cases q : xs.mapM (toPy st 69) with
    | none => rw [q] at e2; cases e2
    | some ps =>
      rw [q] at e2; cases e2
      have pr := mapM_iff.mp q
      refine ⟨?_, fun x hx => let ⟨y, hy⟩ := mem_paired pr hx; tyN_py hy⟩
      have := wt_all_len ps
      simp only [wt] at hw
      rw [paired_len pr]; omega
  · have e2 := toPyX_mono (s' := st) Sub.hid _ 70 _ _ (by omega) e
    simp only [toPyX] at e2
    cases q : xs.mapM (toPyX st 69) with
    | none => rw [q] at e2; cases e2
    | some ps =>
      rw [q] at e2; cases e2
      have pr := mapM_iff.mp q
      refine ⟨?_, fun x hx => let ⟨y, hy⟩ := mem_paired pr hx; tyN_pyX hy⟩
      have := wt_all_len ps
      simp only [wt] at hw
      rw [paired_len pr]; omega
theorem val_ptp {st : Sto} {b : Nat} {xs : List D} (h : Val st b (.ptp xs)) : xs.length ≤ 1000000 ∧ ∀ x, x ∈ xs → ∃ t, tyName st x = some t := by
  rcases h with ⟨p, e, _, _, hw, _⟩ | ⟨p, e, _, _, hw⟩
  · have e2 := toPy_mono (s' := st) Sub.hid _ 70 _ _ (by omega) e
    simp only [toPy] at e2
    cases q : xs.mapM (toPy st 69) with
    | none => rw [q] at e2; cases e2
    | some ps =>
      rw [q] at e2; cases e2
      have pr := mapM_iff.mp q
      refine ⟨?_, fun x hx => let ⟨y, hy⟩ := mem_paired pr hx; tyN_py hy⟩
      have := wt_all_len ps
      simp only [wt] at hw
      rw [paired_len pr]; omega
  · have e2 := toPyX_mono (s' := st) Sub.hid _ 70 _ _ (by omega) e
    simp only [toPyX] at e2
    cases q : xs.mapM (toPyX st 69) with
    | none => rw [q] at e2; cases e2
    | some ps =>
      rw [q] at e2; cases e2
      have pr := mapM_iff.mp q
      refine ⟨?_, fun x hx => let ⟨y, hy⟩ := mem_paired pr hx; tyN_pyX hy⟩
      have := wt_all_len ps
      simp only [wt] at hw
      rw [paired_len pr]; omega
theorem sort_strs {st : Sto} {zs : List Str} (hl : zs.length ≤ 1000000) : ∃ ys, sortDs st (zs.map .str) = some ys ∧ ys.length = zs.length ∧ ∀ y, y ∈ ys → y ∈ zs.map D.str := by
  have e : ∀ zs : List Str, (zs.map D.str).mapM (toPy st 60) = some (zs.map PyData.str) := fun zs => by
    induction zs with
    | nil => rfl
    | cons z zs ih => rw [List.map_cons, List.mapM_cons, ih]; rfl
  have hall : PySem.W.AllAlike (zs.map PyData.str) := by
    intro d hd d' hd'
    obtain ⟨x, _, rfl⟩ := List.mem_map.mp hd
    obtain ⟨y, _, rfl⟩ := List.mem_map.mp hd'
    rfl
  have hsort : PySem.W.Sortable (zs.map PyData.str) := .inr fun d hd => by
    obtain ⟨x, _, rfl⟩ := List.mem_map.mp hd
    exact ⟨by simp, by simp⟩
  have hdep : ∀ p, p ∈ zs.map PyData.str → p.depth ≤ 60 := fun d hd => by
    obtain ⟨x, _, rfl⟩ := List.mem_map.mp hd
    exact Nat.zero_le _
  refine ⟨_, by unfold sortDs; rw [e]; simp only; rw [if_pos ⟨hall, hsort, hdep, by rw [List.length_map]; exact Nat.le_trans hl (by decide)⟩], ?_, fun y hy => ?_⟩
  · rw [List.length_map, List.length_mergeSort, List.length_zip, List.length_map, List.length_map, Nat.min_self]
  · obtain ⟨q, hq, rfl⟩ := List.mem_map.mp hy
    exact (List.of_mem_zip (List.mem_mergeSort.mp hq)).1
theorem val_repr {st : Sto} {b : Nat} {d : D} (h : Val st b d) : ∃ x, As x ∧ ∀ s, Grow b st s → gRepr [d] s = some (.str x, s) := by
  have hsz : 1000000 ≤ sizeLine := by decide
  rcases h with ⟨p, e, a1, a2, a3, a4⟩ | ⟨p, e, a1, a2, a3⟩
  · obtain ⟨s1, s2, s3⟩ := shown_as p a1
    have sh : shows p = true := by
      unfold shows
      rw [s3, decide_eq_true (show p.shown.length ≤ sizeLine by omega), decide_eq_true (show p.depth ≤ 100 by omega)]; rfl
    refine ⟨p.shown, s1, fun s G => ?_⟩
    have e2 := toPy_mono (s' := s) Sub.hid _ 70 _ _ (by omega) (toPy_mono G.sub _ _ _ _ (Nat.le_refl _) e)
    simp only [gRepr, e2, sh, if_true]
  · obtain ⟨s1, s2, s3⟩ := shown_as p a1
    have sh : shows p = true := by
      unfold shows
      rw [s3, decide_eq_true (show p.shown.length ≤ sizeLine by omega), decide_eq_true (show p.depth ≤ 100 by omega)]; rfl
    refine ⟨p.shown, s1, fun s G => ?_⟩
    have e2 := toPyX_mono (s' := s) Sub.hid _ 70 _ _ (by omega) (toPyX_mono G.sub _ _ _ _ (Nat.le_refl _) e)
    cases q : toPy s 70 d with
    | none => simp only [gRepr, q, e2, sh, if_true]
    | some p' =>
      have := py_eq _ _ _ _ _ q e2
      subst this
      simp only [gRepr, q, sh, if_true]
def m_bag : Fd := runB 2 (sRet (eLst (aCons (eC (.int 0)) (aCons (eC (.int 1234567891)) (aCons (eC (.int 0)) (aCons (eLc (iSeq (eSl gSl (eVar 0) oNone (oSome (eC (.int 63))))) (gtName 1) tYesF (eCall gAbs (aCons (eVar 1) aNil)) [1]) (aCons (eLst aNil) aNil)))))))
theorem bag_ok (ns : List Int) (h : ns.length ≤ 63) : Wp (m_bag [.rol (ns.map .int)]) [] fun d s => ∃ b, d = .loc b ∧ Bag s b := by
  unfold m_bag
  rw [wp_runB]
  show Wp (sRet _ [some (.rol (ns.map .int)), none]) [] _
  rw [wp_sRet]
  simp only [wp_lst, wp_cons, wp_nil, wp_c, wp_lc]
  have hcut : ∀ d, d ∈ cutD (ns.map D.int) none (some 63) → ∃ i : Int, d = .int i := fun d hd => by
    obtain ⟨i, _, e⟩ := List.mem_map.mp (mem_cut hd)
    exact ⟨i, e.symm⟩
  have hlen : (cutD (ns.map D.int) none (some 63)).length ≤ 63 := Nat.le_trans cut_len (by rw [List.length_map]; exact h)
  generalize hc : cutD (ns.map D.int) none (some 63) = cut at hcut hlen
  have it : iSeq (eSl gSl (eVar 0) oNone (oSome (eC (.int 63)))) [some (.rol (ns.map .int)), none] [] = some ((cut, okLst 0 cut), [Cell.lst cut]) := by
    have e1 : eSl gSl (eVar 0) oNone (oSome (eC (.int 63))) [some (.rol (ns.map .int)), none] [] = some (.loc 0, [Cell.lst cut]) := by rw [← hc]; rfl
    unfold iSeq bnd
    rw [e1]
    rfl
  rw [wp_run it]
  have ok : okLst 0 cut [Cell.lst cut] = true := by
    show D.sameL cut cut = true
    exact D.sameL_refl _
  refine wp_lcF (fun _ => true) (fun d => match d with | .int i => .int (if i < 0 then -i else i) | d => d) ok cut [] _ (by simp; exact Nat.le_trans hlen (by decide)) (fun d hd => ?_) ?_
  · obtain ⟨i, rfl⟩ := hcut d hd
    exact ⟨_, rfl, rfl, fun _ => rfl⟩
  · simp only [List.nil_append, List.filter_eq_self.mpr (fun _ _ => rfl : ∀ a ∈ cut, (fun _ => true) a = true)]
    have hcells : ∃ cells : List Int, cut.map (fun d => match d with | .int i => D.int (if i < 0 then -i else i) | d => d) = cells.map D.int ∧ (∀ c, c ∈ cells → 0 ≤ c) ∧ cells.length = cut.length := by
      clear it ok hc hlen
      induction cut with
      | nil => exact ⟨[], rfl, fun c h => (nomatch h), rfl⟩
      | cons d ds ih =>
        obtain ⟨cells, e1, e2, e3⟩ := ih fun d hd => hcut d (by simp [hd])
        obtain ⟨i, rfl⟩ := hcut d (by simp)
        refine ⟨(if i < 0 then -i else i) :: cells, by rw [List.map_cons, List.map_cons, e1], fun c hc => ?_, by rw [List.length_cons, List.length_cons, e3]⟩
        rcases List.mem_cons.mp hc with e | hc
        · rw [e]; split <;> omega
        · exact e2 c hc
    obtain ⟨cells, e1, e2, e3⟩ := hcells
    rw [e1]
    refine ⟨Nat.zero_le _, by show 5 ≤ sizeLine; decide, _, rfl, 0, 1234567891, 0, 1, 2, cells, ?_, ?_, by omega, by omega, by omega, e2, ?_, by omega⟩
    · exact get_end
    · rfl
    · show 1 < 3; omega
theorem loop_ok {b l i k C : Nat} {ds : List D} {s0 : Sto} {r0 : DEnv} {body : Fs} {E : DEnv → Prop} (B : Bag s0 b) (hl : s0[l]? = some (.lst ds)) (nb : l ≠ b) (hd : ∀ d, d ∈ ds → OV b k C s0 d) (E0 : E r0)
    (hb : ∀ d r s, Grow b s0 s → OV b k C s d → E r → Wp (body (r.set i (some d))) s fun o s2 => (∃ r2, o = .nx r2 ∧ E r2) ∧ Ext s s2) :
    Wp (forF (gtName i) body (okLst l ds) ds r0) s0 fun o s => ∃ r, o = .nx r ∧ E r ∧ Bag s b ∧ Grow b s0 s := by
  refine wp_forF (fun ds' r s => (∀ d, d ∈ ds' → d ∈ ds) ∧ E r ∧ Bag s b ∧ Grow b s0 s) ?_ ?_ ds r0 s0 _ ⟨fun d h => h, E0, B, .refl⟩ ?_
  · rintro ds' r s ⟨_, _, _, G⟩
    exact ok_of (d := .loc l) (by simp only [seqOf, G.get nb hl])
  · rintro d ds' r s ⟨hm, e, B', G⟩
    rw [wp_gtName]
    refine (hb d r s G (ov_keeps _ _ _ G (hd d (hm d (by simp)))) e).mono fun o s2 ⟨⟨r2, e2, E2⟩, x⟩ => ?_
    exact ⟨r2, .inl e2, fun d' h => hm d' (by simp [h]), E2, x.bag B', G.trans x.grow⟩
  · rintro r s ⟨_, e, B', G⟩
    exact ⟨r, rfl, e, B', G⟩
theorem wp_iterL {f : Fx} {r : DEnv} {st : Sto} {Q : List D × (Sto → Bool) → Sto → Prop} {R : Nat → List D → Sto → Prop} (h : Wp (f r) st fun v s => ∃ l ds, v = .loc l ∧ s[l]? = some (.lst ds) ∧ R l ds s) (hq : ∀ l ds s, s[l]? = some (.lst ds) → R l ds s → Q (ds, okLst l ds) s) : Wp (iSeq f r) st Q := by
  rw [wp_iter]
  refine h.mono fun v s ⟨l, ds, e, hl, z⟩ => ?_
  subst e
  have run : (match (D.loc l) with
    | .tup xs => some ((xs, okAll), s)
    | .rol xs => some ((xs, okAll), s)
    | .loc l => match s[l]? with
      | some (.lst xs) => some ((xs, okLst l xs), s)
      | _ => none
    | .str z => some ((z.cps.toList.map fun c => D.str ⟨#[c]⟩, okAll), s)
    | _ => (none : Option ((List D × (Sto → Bool)) × Sto))) = some ((ds, okLst l ds), s) := by
    simp only [hl]
  exact ⟨_, _, run, hq l ds s hl z⟩
theorem strs_of {p : Str → Prop} : ∀ {ys : List D}, (∀ y, y ∈ ys → ∃ z, y = .str z ∧ p z) → ∃ zs : List Str, ys = zs.map D.str ∧ ∀ z, z ∈ zs → p z
  | [], _ => ⟨[], rfl, fun _ h => (nomatch h)⟩
  | y :: ys, h => by
    obtain ⟨zs, e, hp⟩ := strs_of (ys := ys) fun y hy => h y (by simp [hy])
    obtain ⟨z, ez, hz⟩ := h y (by simp)
    refine ⟨z :: zs, by rw [List.map_cons, e, ez], fun w hw => ?_⟩
    rcases List.mem_cons.mp hw with q | q
    · rw [q]; exact hz
    · exact hp w q
end Fe
namespace Fe.k28
open PySem PySem.Spec PyProof.Rows L2 Fe
noncomputable section
def top (i : Nat) : Stmt := PySem.Challenge.pw_besidealone_k28_books_and_what_makes_the.main.body.getD i (.Pass ⟨0, 0, 0, 0⟩)
abbrev k_DRAINS : D := .ptp [.str "ahead", .str "behind"]
abbrev k_FINDS : D := .ptp [.str "any", .str "live"]
abbrev k_HOLDS : D := .ptp [.str "address", .str "index"]
abbrev k_STRIKES : D := .ptp [.str "always", .str "never", .str "own"]
abbrev k_WAYS : D := .ptp [.str "fresh", .str "kept"]
abbrev st_is_integer : Stmt := top 1
theorem sc_is_integer : FnScope ["thing"] ["thing"] (defScope st_is_integer) := ⟨rfl, rfl, rfl, by decide +kernel, rfl, by decide +kernel, by decide +kernel⟩
def m_is_integer : Fd := runB 1 ((sRet (eAnd (eCall gIsi (aCons (eVar 0) (aCons (eC (.ty "int")) aNil))) (eNot (eCall gIsi (aCons (eVar 0) (aCons (eC (.ty "bool")) aNil)))))))
abbrev st_is_row : Stmt := top 2
theorem sc_is_row : FnScope ["length", "thing"] ["length", "thing"] (defScope st_is_row) := ⟨rfl, rfl, rfl, by decide +kernel, rfl, by decide +kernel, by decide +kernel⟩
def m_is_row : Fd := runB 2 ((sRet (eAnd (eCall gIsi (aCons (eVar 1) (aCons (eC (.ty "tuple")) aNil))) (eBin gEqA (eCall gLen (aCons (eVar 1) aNil)) (eVar 0)))))
abbrev st_is_book : Stmt := top 9
theorem sc_is_book : FnScope ["thing", "number", "word", "words"] ["thing"] (defScope st_is_book) := ⟨rfl, rfl, rfl, by decide +kernel, rfl, by decide +kernel, by decide +kernel⟩
def m_is_book : Fd := runB 4 ((sSeq (sIf (tOrF (tNotF (asB (eCall m_is_row (aCons (eC (.int 9)) (aCons (eVar 0) aNil))))) (asB (eBin (gInA true) (eBin gIx (eVar 0) (eC (.int 0))) (eC k_WAYS)))) (sRet (eC (.bl false))) sNil)
    (sSeq (sIf (tNotF (asB (eCall gAll (aCons (eLc (iSeq (eSl gSl (eVar 0) (oSome (eC (.int 1))) (oSome (eC (.int 5))))) (gtName 1) tYesF (eAnd (eCall m_is_integer (aCons (eVar 1) aNil)) (eBin gGe (eVar 1) (eC (.int 0)))) [1]) aNil)))) (sRet (eC (.bl false))) sNil)
    (sRet (eCall gAll (aCons (eLc (iZip2 (aCons (eSl gSl (eVar 0) (oSome (eC (.int 5))) oNone) (aCons (eTup (aCons (eC k_STRIKES) (aCons (eC k_FINDS) (aCons (eC k_DRAINS) (aCons (eC k_HOLDS) aNil))))) aNil))) (gtTup 2 (gsCons (gtName 2) (gsCons (gtName 3) gsNil))) tYesF (eBin (gInA false) (eVar 2) (eVar 3)) [2, 3]) aNil))))))
abbrev st_is_safe : Stmt := top 10
theorem sc_is_safe : FnScope ["book", "way", "up", "more", "down", "home", "strike", "find", "drain", "hold"] ["book"] (defScope st_is_safe) := ⟨rfl, rfl, rfl, by decide +kernel, rfl, by decide +kernel, by decide +kernel⟩
def m_is_safe : Fd := runB 10 ((sSeq (sAsg (eVar 0) (gtTup 9 (gsCons (gtName 1) (gsCons (gtName 2) (gsCons (gtName 3) (gsCons (gtName 4) (gsCons (gtName 5) (gsCons (gtName 6) (gsCons (gtName 7) (gsCons (gtName 8) (gsCons (gtName 9) gsNil)))))))))))
    (sSeq (sIf (tOrF (asB (eBin gNeA (eVar 5) (eC (.int 1)))) (tOrF (asB (eBin gNeA (eVar 2) (eVar 4))) (asB (eBin gLt (eVar 2) (eC (.int 1)))))) (sRet (eC (.bl false))) sNil)
    (sSeq (sIf (asB (eBin gEqA (eVar 1) (eC (.str "fresh")))) (sRet (eC (.bl true))) sNil)
    (sSeq (sIf (tOrF (asB (eBin gNeA (eVar 3) (eC (.int 0)))) (asB (eBin gNeA (eVar 9) (eC (.str "index"))))) (sRet (eC (.bl false))) sNil)
    (sSeq (sIf (asB (eBin gEqA (eVar 8) (eC (.str "ahead")))) (sRet (eOr (eBin gNeA (eVar 6) (eC (.str "never"))) (eBin gNeA (eVar 7) (eC (.str "any"))))) sNil)
    (sRet (eAnd (eBin gEqA (eVar 7) (eC (.str "live"))) (eBin gNeA (eVar 6) (eC (.str "always")))))))))))
abbrev st_law_bag : Stmt := top 12
theorem sc_law_bag : FnScope ["script", "cell"] ["script"] (defScope st_law_bag) := ⟨rfl, rfl, rfl, by decide +kernel, rfl, by decide +kernel, by decide +kernel⟩
def m_law_bag : Fd := runB 2 ((sRet (eLst (aCons (eC (.int 0)) (aCons (eC (.int 1234567891)) (aCons (eC (.int 0)) (aCons (eLc (iSeq (eSl gSl (eVar 0) oNone (oSome (eC (.int 63))))) (gtName 1) tYesF (eCall gAbs (aCons (eVar 1) aNil)) [1]) (aCons (eLst aNil) aNil))))))))
abbrev st_law_take : Stmt := top 13
theorem sc_law_take : FnScope ["bag", "many", "begin", "second", "cell", "stirred", "drawn"] ["bag", "many"] (defScope st_law_take) := ⟨rfl, rfl, rfl, by decide +kernel, rfl, by decide +kernel, by decide +kernel⟩
def m_law_take : Fd := runB 7 ((sSeq (sIf (asB (eBin gEqA (eBin gIx (eVar 0) (eC (.int 0))) (eC (.int 0)))) (sSeq (sAsg (eBin gIx (eBin gAdd (eSl gSl (eBin gIx (eVar 0) (eC (.int 3))) (oSome (eBin gIx (eVar 0) (eC (.int 2)))) oNone) (eLst (aCons (eC (.int 0)) aNil))) (eC (.int 0))) (gtName 4))
    (sSeq (sAugS (eVar 0) (eC (.int 2)) (eC (.int 1)) gGetL gAddI gSetL)
    (sSeq (sIf (asB (eBin gGe (eVar 4) (eBin gPow (eC (.int 10)) (eC (.int 18))))) (sAsg (eVar 4) (gtSub (eVar 0) (eC (.int 0)) gSetL)) sNil)
    (sSeq (sAsg (eBin gAdd (eBin gAdd (eBin gMul (eBin gIx (eVar 0) (eC (.int 1))) (eC (.int 48271))) (eBin gMod (eCall gInt (aCons (eVar 4) aNil)) (eC (.int 2147483647)))) (eBin gMul (eC (.int 7919)) (eBin gIx (eVar 0) (eC (.int 2))))) (gtName 5))
    (sAsg (eBin gMod (eCall gInt (aCons (eVar 5) aNil)) (eC (.int 2147483647))) (gtSub (eVar 0) (eC (.int 1)) gSetL)))))) sNil)
    (sSeq (sIf (asB (eBin gGt (eBin gIx (eVar 0) (eC (.int 0))) (eC (.int 0)))) (sSeq (sAsg (eBin gMod (eCall gInt (aCons (eBin gIx (eVar 0) (eC (.int 0))) aNil)) (eVar 1)) (gtName 6))
    (sSeq (sAsg (eBin gDiv (eCall gInt (aCons (eBin gIx (eVar 0) (eC (.int 0))) aNil)) (eVar 1)) (gtSub (eVar 0) (eC (.int 0)) gSetL))
    (sRet (eVar 6)))) sNil)
    (sSeq (sAsg (eBin gMod (eCall gInt (aCons (eBin gMul (eBin gAdd (eBin gIx (eVar 0) (eC (.int 1))) (eC (.int 1))) (eC (.int 39373))) aNil)) (eC (.int 1000000007))) (gtName 2))
    (sSeq (sAsg (eBin gMod (eCall gInt (aCons (eBin gMul (eBin gMod (eCall gInt (aCons (eBin gMul (eVar 2) (eVar 2)) aNil)) (eC (.int 998244353))) (eC (.int 30011))) aNil)) (eC (.int 998244353))) (gtName 3))
    (sRet (eBin gMod (eCall gInt (aCons (eBin gDiv (eVar 3) (eC (.int 7))) aNil)) (eVar 1))))))))
abbrev st_law_some : Stmt := top 14
theorem sc_law_some : FnScope ["bag", "things"] ["bag", "things"] (defScope st_law_some) := ⟨rfl, rfl, rfl, by decide +kernel, rfl, by decide +kernel, by decide +kernel⟩
def m_law_some : Fd := runB 2 ((sRet (eBin gIx (eVar 1) (eCall m_law_take (aCons (eVar 0) (aCons (eCall gLen (aCons (eVar 1) aNil)) aNil))))))
abbrev st_law_mixed : Stmt := top 15
theorem sc_law_mixed : FnScope ["bag", "things", "found", "thing"] ["bag", "things"] (defScope st_law_mixed) := ⟨rfl, rfl, rfl, by decide +kernel, rfl, by decide +kernel, by decide +kernel⟩
def b_law_mixed1 : Fs := (sExpr (eMethL gInsert (eVar 2) (aCons (eCall m_law_take (aCons (eVar 0) (aCons (eBin gAdd (eCall gLen (aCons (eVar 2) aNil)) (eC (.int 1))) aNil))) (aCons (eVar 3) aNil))))
def m_law_mixed : Fd := runB 4 ((sSeq (sAsg (eLst aNil) (gtName 2))
    (sSeq (sFor (iSeq (eVar 1)) (gtName 3) b_law_mixed1)
    (sRet (eVar 2)))))
abbrev st_law_alike : Stmt := top 16
theorem sc_law_alike : FnScope ["found", "due"] ["found", "due"] (defScope st_law_alike) := ⟨rfl, rfl, rfl, by decide +kernel, rfl, by decide +kernel, by decide +kernel⟩
def m_law_alike : Fd := runB 2 ((sRet (eAnd (eBin gEqA (eVar 0) (eVar 1)) (eBin gEqA (eCall gRepr (aCons (eVar 0) aNil)) (eCall gRepr (aCons (eVar 1) aNil))))))
abbrev st_law_is_int : Stmt := top 17
theorem sc_law_is_int : FnScope ["thing"] ["thing"] (defScope st_law_is_int) := ⟨rfl, rfl, rfl, by decide +kernel, rfl, by decide +kernel, by decide +kernel⟩
def m_law_is_int : Fd := runB 1 ((sRet (eAnd (eCall gIsi (aCons (eVar 0) (aCons (eC (.ty "int")) aNil))) (eNot (eCall gIsi (aCons (eVar 0) (aCons (eC (.ty "bool")) aNil)))))))
abbrev st_law_odd : Stmt := top 18
theorem sc_law_odd : FnScope ["bag", "some"] ["bag"] (defScope st_law_odd) := ⟨rfl, rfl, rfl, by decide +kernel, rfl, by decide +kernel, by decide +kernel⟩
def m_law_odd : Fd := runB 2 ((sSeq (sAsg (eLst (aCons (eC .non) (aCons (eC (.bl true)) (aCons (eC (.bl false)) (aCons (eC (.int 0)) (aCons (eC (.int 1)) (aCons (eUn gNeg (eC (.int 1))) (aCons (eBin gPow (eC (.int 10)) (eC (.int 39))) (aCons (eC (.str "")) (aCons (eC (.str "a")) (aCons (eC (.str "no")) (aCons (eC (.str "thing")) (aCons (eC (.str "word")) (aCons (eTup aNil) (aCons (eLst aNil) (aCons eDict0 (aCons (eTup (aCons (eC (.str "thing")) aNil)) (aCons (eTup (aCons (eC (.str "hole")) aNil)) aNil)))))))))))))))))) (gtName 1))
    (sRet (eCall m_law_some (aCons (eVar 0) (aCons (eBin gAdd (eVar 1) (eLst (aCons (eTup (aCons (eC (.str "raw")) (aCons (eC (.str "truth")) (aCons (eC (.str "yes")) aNil)))) (aCons (eLst (aCons (eC (.str "no")) aNil)) (aCons (eDict1 "a" (.int 1)) (aCons (eC (.str "a\n")) (aCons (eTup (aCons (eTup (aCons (eC (.str "a")) (aCons (eC (.str "b")) aNil))) aNil)) (aCons (eTup (aCons (eC (.str "a")) (aCons (eC (.str "b")) (aCons (eTup (aCons (eC (.str "c")) aNil)) aNil)))) (aCons (eC (.str "abcdefghijklm")) aNil))))))))) aNil))))))
abbrev st_law_bent : Stmt := top 19
theorem sc_law_bent : FnScope ["bag", "thing", "deep", "items", "menu", "way", "at", "some", "key", "value"] ["bag", "thing", "deep"] (defScope st_law_bent) := ⟨rfl, rfl, rfl, by decide +kernel, rfl, by decide +kernel, by decide +kernel⟩
def m_law_bent : Nat → Fd
  | 0 => runB 10 sNever
  | n + 1 => runB 10 ((sSeq (sIf (tOrF (asB (eBin gEqA (eVar 2) (eC (.int 0)))) (asB (eBin gEqA (eCall m_law_take (aCons (eVar 0) (aCons (eC (.int 9)) aNil))) (eC (.int 0))))) (sRet (eCall m_law_odd (aCons (eVar 0) aNil))) sNil)
    (sSeq (sIf (asB (eCall m_law_is_int (aCons (eVar 1) aNil))) (sRet (eCall m_law_some (aCons (eVar 0) (aCons (eLst (aCons (eBin gAdd (eVar 1) (eC (.int 1))) (aCons (eBin gSub (eVar 1) (eC (.int 1))) (aCons (eC (.int 0)) (aCons (eUn gNeg (eVar 1)) (aCons (eBin gEqA (eVar 1) (eC (.int 1))) (aCons (eC .non) (aCons (eCall gStrI (aCons (eVar 1) aNil)) aNil)))))))) aNil)))) sNil)
    (sSeq (sIf (tAndF (asB (eCall gIsi (aCons (eVar 1) (aCons (eC (.ty "dict")) aNil)))) (asB (eBin gNeA (eVar 1) eDict0))) sNever sNil)
    (sSeq (sIf (asB (eCall gIsi (aCons (eVar 1) (aCons (eC (.ty "str")) aNil)))) (sRet (eCall m_law_some (aCons (eVar 0) (aCons (eLst (aCons (eBin gAdd (eVar 1) (eC (.str "a"))) (aCons (eSl gSl (eVar 1) (oSome (eC (.int 1))) oNone) (aCons (eBin gAdd (eVar 1) (eC (.str "1"))) (aCons (eMeth gUpper (eVar 1) aNil) (aCons (eC (.str "no")) (aCons (eBin gMul (eVar 1) (eC (.int 12))) (aCons (eC (.str "thing")) (aCons (eBin gAdd (eVar 1) (eC (.str "\n"))) (aCons (eC (.str "given")) aNil)))))))))) aNil)))) sNil)
    (sSeq (sIf (tOrF (tNotF (asB (eCall gIsi (aCons (eVar 1) (aCons (eC (.ty "tuple")) aNil))))) (asB (eBin gEqA (eVar 1) (eTup aNil)))) (sRet (eCall m_law_odd (aCons (eVar 0) aNil))) sNil)
    (sSeq (sPar 5 6 (aCons (eCall m_law_take (aCons (eVar 0) (aCons (eC (.int 9)) aNil))) (aCons (eCall m_law_take (aCons (eVar 0) (aCons (eCall gLen (aCons (eVar 1) aNil)) aNil))) aNil)))
    (sSeq (sIf (asB (eBin gEqA (eVar 5) (eC (.int 0)))) (sSeq (sAsg (eLst (aCons (eCall gList (aCons (eVar 1) aNil)) (aCons (eRev (eVar 1)) (aCons (eBin gAdd (eSl gSl (eVar 1) oNone (oSome (eVar 6))) (eSl gSl (eVar 1) (oSome (eBin gAdd (eVar 6) (eC (.int 1)))) oNone)) (aCons (eBin gAdd (eSl gSl (eVar 1) oNone (oSome (eBin gAdd (eVar 6) (eC (.int 1))))) (eSl gSl (eVar 1) (oSome (eVar 6)) oNone)) aNil))))) (gtName 7))
    (sRet (eCall m_law_some (aCons (eVar 0) (aCons (eBin gAdd (eVar 7) (eLst (aCons (eBin gAdd (eVar 1) (eTup (aCons (eC .non) aNil))) aNil))) aNil))))) sNil)
    (sRet (eBin gAdd (eBin gAdd (eSl gSl (eVar 1) oNone (oSome (eVar 6))) (eTup (aCons (eCall (m_law_bent n) (aCons (eVar 0) (aCons (eBin gIx (eVar 1) (eVar 6)) (aCons (eBin gSub (eVar 2) (eC (.int 1))) aNil)))) aNil))) (eSl gSl (eVar 1) (oSome (eBin gAdd (eVar 6) (eC (.int 1)))) oNone)))))))))))
abbrev st_law_is_safe : Stmt := top 20
theorem sc_law_is_safe : FnScope ["book", "way", "up", "more", "down", "home", "strike", "find", "drain", "hold"] ["book"] (defScope st_law_is_safe) := ⟨rfl, rfl, rfl, by decide +kernel, rfl, by decide +kernel, by decide +kernel⟩
def m_law_is_safe : Fd := runB 10 ((sSeq (sAsg (eVar 0) (gtTup 9 (gsCons (gtName 1) (gsCons (gtName 2) (gsCons (gtName 3) (gsCons (gtName 4) (gsCons (gtName 5) (gsCons (gtName 6) (gsCons (gtName 7) (gsCons (gtName 8) (gsCons (gtName 9) gsNil)))))))))))
    (sSeq (sIf (tOrF (asB (eBin gNeA (eVar 5) (eC (.int 1)))) (tOrF (asB (eBin gNeA (eVar 2) (eVar 4))) (asB (eBin gLt (eVar 2) (eC (.int 1)))))) (sRet (eC (.bl false))) sNil)
    (sSeq (sIf (asB (eBin gEqA (eVar 1) (eC (.str "fresh")))) (sRet (eC (.bl true))) sNil)
    (sSeq (sIf (tOrF (asB (eBin gNeA (eVar 3) (eC (.int 0)))) (asB (eBin gNeA (eVar 9) (eC (.str "index"))))) (sRet (eC (.bl false))) sNil)
    (sRet (eIf (asB (eBin gEqA (eVar 8) (eC (.str "ahead")))) (eNot (eAnd (eBin gEqA (eVar 6) (eC (.str "never"))) (eBin gEqA (eVar 7) (eC (.str "any"))))) (eAnd (eBin gEqA (eVar 7) (eC (.str "live"))) (eBin gNeA (eVar 6) (eC (.str "always")))))))))))
abbrev st_law_book : Stmt := top 21
theorem sc_law_book : FnScope ["bag", "drain", "book", "menus", "turn", "way", "many", "strike", "find", "at"] ["bag"] (defScope st_law_book) := ⟨rfl, rfl, rfl, by decide +kernel, rfl, by decide +kernel, by decide +kernel⟩
def b_law_book1 : Fs := (sSeq (sAsg (eCall m_law_take (aCons (eVar 0) (aCons (eC (.int 9)) aNil))) (gtName 9))
    (sAsg (eCall m_law_some (aCons (eVar 0) (aCons (eBin gIx (eVar 3) (eVar 9)) aNil))) (gtSub (eVar 2) (eVar 9) gSetL)))
def m_law_book : Fd := runB 10 ((sSeq (sPar 5 6 (aCons (eCall m_law_some (aCons (eVar 0) (aCons (eLst (aCons (eC (.str "kept")) (aCons (eC (.str "fresh")) (aCons (eC (.str "kept")) aNil)))) aNil))) (aCons (eCall m_law_some (aCons (eVar 0) (aCons (eLst (aCons (eC (.int 1)) (aCons (eC (.int 1)) (aCons (eC (.int 2)) (aCons (eC (.int 3)) aNil))))) aNil))) aNil)))
    (sSeq (sAsg (eCall m_law_some (aCons (eVar 0) (aCons (eLst (aCons (eC (.str "ahead")) (aCons (eC (.str "behind")) aNil))) aNil))) (gtName 1))
    (sSeq (sPar 7 8 (aCons (eCall m_law_some (aCons (eVar 0) (aCons (eLst (aCons (eC (.str "own")) (aCons (eC (.str "never")) aNil))) aNil))) (aCons (eC (.str "live")) aNil)))
    (sSeq (sIf (asB (eBin gEqA (eVar 1) (eC (.str "ahead")))) (sAsg (eCall m_law_some (aCons (eVar 0) (aCons (eLst (aCons (eTup (aCons (eC (.str "own")) (aCons (eC (.str "live")) aNil))) (aCons (eTup (aCons (eC (.str "own")) (aCons (eC (.str "any")) aNil))) (aCons (eTup (aCons (eC (.str "always")) (aCons (eC (.str "any")) aNil))) (aCons (eTup (aCons (eC (.str "always")) (aCons (eC (.str "live")) aNil))) (aCons (eTup (aCons (eC (.str "never")) (aCons (eC (.str "live")) aNil))) aNil)))))) aNil))) (gtTup 2 (gsCons (gtName 7) (gsCons (gtName 8) gsNil)))) sNil)
    (sSeq (sAsg (eLst (aCons (eVar 5) (aCons (eVar 6) (aCons (eC (.int 0)) (aCons (eVar 6) (aCons (eC (.int 1)) (aCons (eVar 7) (aCons (eVar 8) (aCons (eVar 1) (aCons (eC (.str "index")) aNil)))))))))) (gtName 2))
    (sSeq (sIf (asB (eBin gEqA (eVar 5) (eC (.str "fresh")))) (sAsg (eTup (aCons (eCall m_law_take (aCons (eVar 0) (aCons (eC (.int 3)) aNil))) (aCons (eCall m_law_some (aCons (eVar 0) (aCons (eLst (aCons (eC (.str "index")) (aCons (eC (.str "address")) aNil))) aNil))) aNil))) (gtTup 2 (gsCons (gtSub (eVar 2) (eC (.int 2)) gSetL) (gsCons (gtSub (eVar 2) (eC (.int 8)) gSetL) gsNil)))) sNil)
    (sSeq (sAsg (eBin gAdd (eBin gAdd (eLst (aCons (eLst (aCons (eC (.str "fresh")) (aCons (eC (.str "kept")) aNil))) aNil)) (eBin gMulL (eLst (aCons (eLst (aCons (eC (.int 0)) (aCons (eC (.int 1)) (aCons (eC (.int 2)) (aCons (eC (.int 3)) aNil))))) aNil)) (eC (.int 4)))) (eLst (aCons (eLst (aCons (eC (.str "always")) (aCons (eC (.str "never")) (aCons (eC (.str "own")) aNil)))) (aCons (eLst (aCons (eC (.str "any")) (aCons (eC (.str "live")) aNil))) (aCons (eLst (aCons (eC (.str "ahead")) (aCons (eC (.str "behind")) aNil))) (aCons (eLst (aCons (eC (.str "address")) (aCons (eC (.str "index")) aNil))) aNil)))))) (gtName 3))
    (sSeq (sFor (iRange (aCons (eCall m_law_some (aCons (eVar 0) (aCons (eLst (aCons (eC (.int 0)) (aCons (eC (.int 1)) (aCons (eC (.int 1)) (aCons (eC (.int 2)) (aCons (eC (.int 5)) aNil)))))) aNil))) aNil)) (gtName 4) b_law_book1)
    (sRet (eCall gTuple (aCons (eVar 2) aNil))))))))))))
abbrev st_law_is_book : Stmt := top 22
theorem sc_law_is_book : FnScope ["thing", "menus", "one", "some"] ["thing"] (defScope st_law_is_book) := ⟨rfl, rfl, rfl, by decide +kernel, rfl, by decide +kernel, by decide +kernel⟩
def b_law_is_book1 : Fs := (sSeq (sIf (tAndF (asB (eBin (gIsN false) (eVar 3) (eC .non))) (tOrF (tNotF (asB (eCall m_law_is_int (aCons (eVar 2) aNil)))) (asB (eBin gLt (eVar 2) (eC (.int 0)))))) (sRet (eC (.bl false))) sNil)
    (sIf (tAndF (asB (eBin (gIsN true) (eVar 3) (eC .non))) (tOrF (tNotF (asB (eCall gIsi (aCons (eVar 2) (aCons (eC (.ty "str")) aNil))))) (asB (eBin (gInA true) (eVar 2) (eVar 3))))) (sRet (eC (.bl false))) sNil))
def m_law_is_book : Fd := runB 4 ((sSeq (sAsg (eLst (aCons (eTup (aCons (eC (.str "fresh")) (aCons (eC (.str "kept")) aNil))) (aCons (eC .non) (aCons (eC .non) (aCons (eC .non) (aCons (eC .non) (aCons (eTup (aCons (eC (.str "always")) (aCons (eC (.str "never")) (aCons (eC (.str "own")) aNil)))) (aCons (eTup (aCons (eC (.str "any")) (aCons (eC (.str "live")) aNil))) (aCons (eTup (aCons (eC (.str "ahead")) (aCons (eC (.str "behind")) aNil))) (aCons (eTup (aCons (eC (.str "address")) (aCons (eC (.str "index")) aNil))) aNil)))))))))) (gtName 1))
    (sSeq (sIf (tOrF (tNotF (asB (eCall gIsi (aCons (eVar 0) (aCons (eC (.ty "tuple")) aNil))))) (asB (eBin gNeA (eCall gLen (aCons (eVar 0) aNil)) (eC (.int 9))))) (sRet (eC (.bl false))) sNil)
    (sSeq (sFor (iZipM (aCons (eVar 0) (aCons (eVar 1) aNil))) (gtTup 2 (gsCons (gtName 2) (gsCons (gtName 3) gsNil))) b_law_is_book1)
    (sRet (eC (.bl true)))))))
abbrev st_law : Stmt := top 23
theorem sc_law : FnScope ["script", "bag", "turn", "book", "at", "great", "one", "things", "thing", "shown"] ["script"] (defScope st_law) := ⟨rfl, rfl, rfl, by decide +kernel, rfl, by decide +kernel, by decide +kernel⟩
def b_law1 : Fs := (sIf (tNotF (asB (eCall m_law_alike (aCons (eLst (aCons (eCall m_is_book (aCons (eVar 6) aNil)) (aCons (eCall m_is_safe (aCons (eVar 6) aNil)) aNil))) (aCons (eLst (aCons (eC (.bl true)) (aCons (eCall m_law_is_safe (aCons (eVar 6) aNil)) aNil))) aNil))))) (sRet (eC (.bl false))) sNil)
def b_law2 : Fs := (sSeq (sAsg (eCall gRepr (aCons (eVar 8) aNil)) (gtName 9))
    (sIf (tOrF (tNotF (asB (eCall m_law_alike (aCons (eCall m_is_book (aCons (eVar 8) aNil)) (aCons (eCall m_law_is_book (aCons (eVar 8) aNil)) aNil))))) (asB (eBin gNeA (eCall gRepr (aCons (eVar 8) aNil)) (eVar 9)))) (sRet (eC (.bl false))) sNil))
def b_law3 : Fs := (sSeq (sAsg (eCall m_law_book (aCons (eVar 1) aNil)) (gtName 3))
    (sSeq (sAsg (eCall m_law_take (aCons (eVar 1) (aCons (eC (.int 9)) aNil))) (gtName 4))
    (sSeq (sAsg (eBin gAdd (eBin gAdd (eSl gSl (eVar 3) oNone (oSome (eC (.int 1)))) (eTup (aCons (eBin gPow (eC (.int 10)) (eC (.int 30))) (aCons (eC (.int 0)) (aCons (eBin gPow (eC (.int 10)) (eC (.int 30))) aNil))))) (eSl gSl (eVar 3) (oSome (eC (.int 4))) oNone)) (gtName 5))
    (sSeq (sFor (iSeq (eTup (aCons (eVar 3) (aCons (eVar 5) aNil)))) (gtName 6) b_law1)
    (sSeq (sAsg (eLst (aCons (eCall gList (aCons (eVar 3) aNil)) (aCons (eSl gSl (eVar 3) oNone (oSome (eC (.int 8)))) (aCons (eBin gAdd (eVar 3) (eTup (aCons (eC (.str "own")) aNil))) (aCons (eRev (eVar 3)) (aCons (eBin gAdd (eBin gAdd (eSl gSl (eVar 3) oNone (oSome (eVar 4))) (eTup (aCons (eCall m_law_odd (aCons (eVar 1) aNil)) aNil))) (eSl gSl (eVar 3) (oSome (eBin gAdd (eVar 4) (eC (.int 1)))) oNone)) (aCons (eCall m_law_odd (aCons (eVar 1) aNil)) (aCons (eCall (m_law_bent 4) (aCons (eVar 1) (aCons (eVar 3) (aCons (eC (.int 2)) aNil)))) aNil)))))))) (gtName 7))
    (sFor (iSeq (eVar 7)) (gtName 8) b_law2))))))
def m_law : Fd := runB 10 ((sSeq (sAsg (eCall m_law_bag (aCons (eVar 0) aNil)) (gtName 1))
    (sSeq (sFor (iRange (aCons (eC (.int 12)) aNil)) (gtName 2) b_law3)
    (sRet (eC (.bl true))))))
/-- what the text is told of the frame -/
structure Txt (K : PySem.W.Frag) (mg : Str → Option Value) (base : Heap) : Prop where
  d_is_integer : Defd K mg "is_integer" st_is_integer ["thing"]
  d_is_row : Defd K mg "is_row" st_is_row ["length", "thing"]
  d_is_book : Defd K mg "is_book" st_is_book ["thing"]
  d_is_safe : Defd K mg "is_safe" st_is_safe ["book"]
  d_law_bag : Defd K mg "_law_bag" st_law_bag ["script"]
  d_law_take : Defd K mg "_law_take" st_law_take ["bag", "many"]
  d_law_some : Defd K mg "_law_some" st_law_some ["bag", "things"]
  d_law_mixed : Defd K mg "_law_mixed" st_law_mixed ["bag", "things"]
  d_law_alike : Defd K mg "_law_alike" st_law_alike ["found", "due"]
  d_law_is_int : Defd K mg "_law_is_int" st_law_is_int ["thing"]
  d_law_odd : Defd K mg "_law_odd" st_law_odd ["bag"]
  d_law_bent : Defd K mg "_law_bent" st_law_bent ["bag", "thing", "deep"]
  d_law_is_safe : Defd K mg "_law_is_safe" st_law_is_safe ["book"]
  d_law_book : Defd K mg "_law_book" st_law_book ["bag"]
  d_law_is_book : Defd K mg "_law_is_book" st_law_is_book ["thing"]
  d_law : Defd K mg "law" st_law ["script"]
  no_abs : mg "abs" = none
  no_all : mg "all" = none
  no_bool : mg "bool" = none
  no_dict : mg "dict" = none
  no_int : mg "int" = none
  no_isinstance : mg "isinstance" = none
  no_len : mg "len" = none
  no_list : mg "list" = none
  no_range : mg "range" = none
  no_repr : mg "repr" = none
  no_str : mg "str" = none
  no_tuple : mg "tuple" = none
  no_zip : mg "zip" = none
  c_DRAINS : GlobD K mg "DRAINS" k_DRAINS
  c_FINDS : GlobD K mg "FINDS" k_FINDS
  c_HOLDS : GlobD K mg "HOLDS" k_HOLDS
  c_STRIKES : GlobD K mg "STRIKES" k_STRIKES
  c_WAYS : GlobD K mg "WAYS" k_WAYS
  sys : SysAt base
section
variable {P : Program} {w : World} {K : PySem.W.Frag} {mg : Str → Option Value} {base : Heap}
theorem ok_is_integer (T : Txt K mg base) : Kept P w K mg base 1 "is_integer" ["thing"] m_is_integer :=
  kept_ok T.d_is_integer sc_is_integer rfl fun f cdv A outer s H hg hr => (fss_one (fs_ret (fe_and (fe_callB call_isi sr_isi (by rfl) T.no_isinstance bf_isi (fa_cons (fv 0) (fa_cons (fe_ty (by rfl) T.no_int boot_ty_int) fa_nil))) (fe_one (fe_not (fe_callB call_isi sr_isi (by rfl) T.no_isinstance bf_isi (fa_cons (fv 0) (fa_cons (fe_ty (by rfl) T.no_bool boot_ty_bool) fa_nil))))))))
theorem ok_is_row (T : Txt K mg base) : Kept P w K mg base 1 "is_row" ["length", "thing"] m_is_row :=
  kept_ok T.d_is_row sc_is_row rfl fun f cdv A outer s H hg hr => (fss_one (fs_ret (fe_and (fe_callB call_isi sr_isi (by rfl) T.no_isinstance bf_isi (fa_cons (fv 1) (fa_cons (fe_ty (by rfl) T.no_tuple boot_ty_tuple) fa_nil))) (fe_one (fe_cmp (op_eqAll hr) sr_eqAll (by rfl) (fe_callB call_lenA sr_len (by rfl) T.no_len bf_len (fa_cons (fv 1) fa_nil)) (fv 0))))))
theorem ok_is_book (T : Txt K mg base) : Kept P w K mg base 2 "is_book" ["thing"] m_is_book :=
  kept_ok T.d_is_book sc_is_book rfl fun f cdv A outer s H hg hr => (fss_cons (fs_if (FW.ft (fw_or (ft_not (ft_val (fe_callK ((ok_is_row T).mono (by omega)) hg hr (fa_cons fe_int (fa_cons (fv 0) fa_nil)) (len_cons (len_cons (fun _ _ _ _ => len_nil)))))) (fw_or1 (ft_cmp (op_notInAll hr) sr_inAll (by rfl) (fe_ix ix_seq sr_ix (fun _ _ => rfl) (fv 0) fe_int) (fe_globD (by rfl) T.c_WAYS))))) (fss_one (fs_ret fe_bl)) fss_nil)
    (fss_cons (fs_if (ft_not (ft_val (fe_callB (cr_all rfl) sr_all (by rfl) T.no_all bf_all (fa_cons (fe_lc (own := [("number", 1)]) rfl sc_is_book.nd (fi_seq (fe_sl sl_all sr_sl (fv 0) (fo_some fe_int) (fo_some fe_int))) (blkOk_by (N := ["thing", "number", "word", "words"]) (sc := defScope st_is_book) (by decide +kernel)) (fun _ _ _ _ _ => (gv 1 sc_is_book.nd)) (fun _ _ _ _ _ => fts_nil) (fun _ _ _ _ _ => (fe_and (fe_callK ((ok_is_integer T).mono (by omega)) hg hr (fa_cons (fv 1) fa_nil) (len_cons (fun _ _ _ _ => len_nil))) (fe_one (fe_cmp op_geAll sr_ge (by rfl) (fv 1) fe_int)))) (by decide)) fa_nil)))) (fss_one (fs_ret fe_bl)) fss_nil)
    (fss_one (fs_ret (fe_callB (cr_all rfl) sr_all (by rfl) T.no_all bf_all (fa_cons (fe_lc (own := [("word", 2), ("words", 3)]) rfl sc_is_book.nd (fi_zip (by rfl) T.no_zip (fa_cons (fe_sl sl_all sr_sl (fv 0) (fo_some fe_int) fo_none) (fa_cons (fe_tup (fa_cons (fe_globD (by rfl) T.c_STRIKES) (fa_cons (fe_globD (by rfl) T.c_FINDS) (fa_cons (fe_globD (by rfl) T.c_DRAINS) (fa_cons (fe_globD (by rfl) T.c_HOLDS) fa_nil))))) fa_nil))) (blkOk_by (N := ["thing", "number", "word", "words"]) (sc := defScope st_is_book) (by decide +kernel)) (fun _ _ _ _ _ => (fg_tup rfl (fgs_cons (gv 2 sc_is_book.nd) (fgs_cons (gv 3 sc_is_book.nd) fgs_nil)))) (fun _ _ _ _ _ => fts_nil) (fun _ _ _ _ _ => (fe_cmp (op_inAll hr) sr_inAll (by rfl) (fv 2) (fv 3))) (by decide)) fa_nil))))))
theorem ok_is_safe (T : Txt K mg base) : Kept P w K mg base 1 "is_safe" ["book"] m_is_safe :=
  kept_ok T.d_is_safe sc_is_safe rfl fun f cdv A outer s H hg hr => (fss_cons (fs_asg (fv 0) (fg_tup rfl (fgs_cons (gv 1 sc_is_safe.nd) (fgs_cons (gv 2 sc_is_safe.nd) (fgs_cons (gv 3 sc_is_safe.nd) (fgs_cons (gv 4 sc_is_safe.nd) (fgs_cons (gv 5 sc_is_safe.nd) (fgs_cons (gv 6 sc_is_safe.nd) (fgs_cons (gv 7 sc_is_safe.nd) (fgs_cons (gv 8 sc_is_safe.nd) (fgs_cons (gv 9 sc_is_safe.nd) fgs_nil)))))))))))
    (fss_cons (fs_if (FW.ft (fw_or (ft_cmp (op_neAll hr) sr_neAll (by rfl) (fv 5) fe_int) (fw_or (ft_cmp (op_neAll hr) sr_neAll (by rfl) (fv 2) (fv 4)) (fw_or1 (ft_cmp op_ltAll sr_lt (by rfl) (fv 2) fe_int))))) (fss_one (fs_ret fe_bl)) fss_nil)
    (fss_cons (fs_if (ft_cmp (op_eqAll hr) sr_eqAll (by rfl) (fv 1) fe_str) (fss_one (fs_ret fe_bl)) fss_nil)
    (fss_cons (fs_if (FW.ft (fw_or (ft_cmp (op_neAll hr) sr_neAll (by rfl) (fv 3) fe_int) (fw_or1 (ft_cmp (op_neAll hr) sr_neAll (by rfl) (fv 9) fe_str)))) (fss_one (fs_ret fe_bl)) fss_nil)
    (fss_cons (fs_if (ft_cmp (op_eqAll hr) sr_eqAll (by rfl) (fv 8) fe_str) (fss_one (fs_ret (fe_or (fe_cmp (op_neAll hr) sr_neAll (by rfl) (fv 6) fe_str) (fe_one (fe_cmp (op_neAll hr) sr_neAll (by rfl) (fv 7) fe_str))))) fss_nil)
    (fss_one (fs_ret (fe_and (fe_cmp (op_eqAll hr) sr_eqAll (by rfl) (fv 7) fe_str) (fe_one (fe_cmp (op_neAll hr) sr_neAll (by rfl) (fv 6) fe_str))))))))))
theorem ok_law_bag (T : Txt K mg base) : Kept P w K mg base 1 "_law_bag" ["script"] m_law_bag :=
  kept_ok T.d_law_bag sc_law_bag rfl fun f cdv A outer s H hg hr => (fss_one (fs_ret (fe_lst (fa_cons fe_int (fa_cons fe_int (fa_cons fe_int (fa_cons (fe_lc (own := [("cell", 1)]) rfl sc_law_bag.nd (fi_seq (fe_sl sl_all sr_sl (fv 0) fo_none (fo_some fe_int))) (blkOk_by (N := ["script", "cell"]) (sc := defScope st_law_bag) (by decide +kernel)) (fun _ _ _ _ _ => (gv 1 sc_law_bag.nd)) (fun _ _ _ _ _ => fts_nil) (fun _ _ _ _ _ => (fe_callB call_abs sr_abs (by rfl) T.no_abs bf_abs (fa_cons (fv 1) fa_nil))) (by decide)) (fa_cons (fe_lst fa_nil) fa_nil))))))))
theorem ok_law_take (T : Txt K mg base) : Kept P w K mg base 1 "_law_take" ["bag", "many"] m_law_take :=
  kept_ok T.d_law_take sc_law_take rfl fun f cdv A outer s H hg hr => (fss_cons (fs_if (ft_cmp (op_eqAll hr) sr_eqAll (by rfl) (fe_ix ix_seq sr_ix (fun _ _ => rfl) (fv 0) fe_int) fe_int) (fss_cons (fs_asg (fe_ix ix_seq sr_ix (fun _ _ => rfl) (fe_bin op_addAll sr_addAll (fe_sl sl_all sr_sl (fe_ix ix_seq sr_ix (fun _ _ => rfl) (fv 0) fe_int) (fo_some (fe_ix ix_seq sr_ix (fun _ _ => rfl) (fv 0) fe_int)) fo_none) (fe_lst (fa_cons fe_int fa_nil))) fe_int) (gv 4 sc_law_take.nd))
    (fss_cons (fs_augS (fv 0) fe_int fe_int get_list sr_getL iop_add sr_addI set_list srs_setL)
    (fss_cons (fs_if (ft_cmp op_geAll sr_ge (by rfl) (fv 4) (fe_bin op_pow sr_pow fe_int fe_int)) (fss_one (fs_asg (fv 4) (fg_sub (fv 0) fe_int set_list srs_setL))) fss_nil)
    (fss_cons (fs_asg (fe_bin op_addAll sr_addAll (fe_bin op_addAll sr_addAll (fe_bin op_mulAll sr_mulAll (fe_ix ix_seq sr_ix (fun _ _ => rfl) (fv 0) fe_int) fe_int) (fe_bin op_mod sr_mod (fe_callTy call_int1 sr_int (by rfl) T.no_int boot_ty_int (fa_cons (fv 4) fa_nil)) fe_int)) (fe_bin op_mulAll sr_mulAll fe_int (fe_ix ix_seq sr_ix (fun _ _ => rfl) (fv 0) fe_int))) (gv 5 sc_law_take.nd))
    (fss_one (fs_asg (fe_bin op_mod sr_mod (fe_callTy call_int1 sr_int (by rfl) T.no_int boot_ty_int (fa_cons (fv 5) fa_nil)) fe_int) (fg_sub (fv 0) fe_int set_list srs_setL))))))) fss_nil)
    (fss_cons (fs_if (ft_cmp op_gtAll sr_gt (by rfl) (fe_ix ix_seq sr_ix (fun _ _ => rfl) (fv 0) fe_int) fe_int) (fss_cons (fs_asg (fe_bin op_mod sr_mod (fe_callTy call_int1 sr_int (by rfl) T.no_int boot_ty_int (fa_cons (fe_ix ix_seq sr_ix (fun _ _ => rfl) (fv 0) fe_int) fa_nil)) (fv 1)) (gv 6 sc_law_take.nd))
    (fss_cons (fs_asg (fe_bin op_fdiv sr_div (fe_callTy call_int1 sr_int (by rfl) T.no_int boot_ty_int (fa_cons (fe_ix ix_seq sr_ix (fun _ _ => rfl) (fv 0) fe_int) fa_nil)) (fv 1)) (fg_sub (fv 0) fe_int set_list srs_setL))
    (fss_one (fs_ret (fv 6))))) fss_nil)
    (fss_cons (fs_asg (fe_bin op_mod sr_mod (fe_callTy call_int1 sr_int (by rfl) T.no_int boot_ty_int (fa_cons (fe_bin op_mulAll sr_mulAll (fe_bin op_addAll sr_addAll (fe_ix ix_seq sr_ix (fun _ _ => rfl) (fv 0) fe_int) fe_int) fe_int) fa_nil)) fe_int) (gv 2 sc_law_take.nd))
    (fss_cons (fs_asg (fe_bin op_mod sr_mod (fe_callTy call_int1 sr_int (by rfl) T.no_int boot_ty_int (fa_cons (fe_bin op_mulAll sr_mulAll (fe_bin op_mod sr_mod (fe_callTy call_int1 sr_int (by rfl) T.no_int boot_ty_int (fa_cons (fe_bin op_mulAll sr_mulAll (fv 2) (fv 2)) fa_nil)) fe_int) fe_int) fa_nil)) fe_int) (gv 3 sc_law_take.nd))
    (fss_one (fs_ret (fe_bin op_mod sr_mod (fe_callTy call_int1 sr_int (by rfl) T.no_int boot_ty_int (fa_cons (fe_bin op_fdiv sr_div (fv 3) fe_int) fa_nil)) (fv 1))))))))
theorem ok_law_some (T : Txt K mg base) : Kept P w K mg base 2 "_law_some" ["bag", "things"] m_law_some :=
  kept_ok T.d_law_some sc_law_some rfl fun f cdv A outer s H hg hr => (fss_one (fs_ret (fe_ix ix_seq sr_ix (fun _ _ => rfl) (fv 1) (fe_callK ((ok_law_take T).mono (by omega)) hg hr (fa_cons (fv 0) (fa_cons (fe_callB call_lenA sr_len (by rfl) T.no_len bf_len (fa_cons (fv 1) fa_nil)) fa_nil)) (len_cons (len_cons (fun _ _ _ _ => len_nil)))))))
theorem ok_law_mixed (T : Txt K mg base) : Kept P w K mg base 2 "_law_mixed" ["bag", "things"] m_law_mixed :=
  kept_ok T.d_law_mixed sc_law_mixed rfl fun f cdv A outer s H hg hr => (fss_cons (fs_asg (fe_lst fa_nil) (gv 2 sc_law_mixed.nd))
    (fss_cons (fs_for PassesOwn.never rfl (fi_seq (fv 1)) (gv 3 sc_law_mixed.nd) (fss_one (fs_expr (fe_insert (fv 2) (fa_cons (fe_callK ((ok_law_take T).mono (by omega)) hg hr (fa_cons (fv 0) (fa_cons (fe_bin op_addAll sr_addAll (fe_callB call_lenA sr_len (by rfl) T.no_len bf_len (fa_cons (fv 2) fa_nil)) fe_int) fa_nil)) (len_cons (len_cons (fun _ _ _ _ => len_nil)))) (fa_cons (fv 3) fa_nil))))))
    (fss_one (fs_ret (fv 2)))))
theorem ok_law_alike (T : Txt K mg base) : Kept P w K mg base 1 "_law_alike" ["found", "due"] m_law_alike :=
  kept_ok T.d_law_alike sc_law_alike rfl fun f cdv A outer s H hg hr => (fss_one (fs_ret (fe_and (fe_cmp (op_eqAll hr) sr_eqAll (by rfl) (fv 0) (fv 1)) (fe_one (fe_cmp (op_eqAll hr) sr_eqAll (by rfl) (fe_callB (call_reprA T.sys hg hr) sr_repr (by rfl) T.no_repr bf_repr (fa_cons (fv 0) fa_nil)) (fe_callB (call_reprA T.sys hg hr) sr_repr (by rfl) T.no_repr bf_repr (fa_cons (fv 1) fa_nil)))))))
theorem ok_law_is_int (T : Txt K mg base) : Kept P w K mg base 1 "_law_is_int" ["thing"] m_law_is_int :=
  kept_ok T.d_law_is_int sc_law_is_int rfl fun f cdv A outer s H hg hr => (fss_one (fs_ret (fe_and (fe_callB call_isi sr_isi (by rfl) T.no_isinstance bf_isi (fa_cons (fv 0) (fa_cons (fe_ty (by rfl) T.no_int boot_ty_int) fa_nil))) (fe_one (fe_not (fe_callB call_isi sr_isi (by rfl) T.no_isinstance bf_isi (fa_cons (fv 0) (fa_cons (fe_ty (by rfl) T.no_bool boot_ty_bool) fa_nil))))))))
theorem ok_law_odd (T : Txt K mg base) : Kept P w K mg base 3 "_law_odd" ["bag"] m_law_odd :=
  kept_ok T.d_law_odd sc_law_odd rfl fun f cdv A outer s H hg hr => (fss_cons (fs_asg (fe_lst (fa_cons fe_non (fa_cons fe_bl (fa_cons fe_bl (fa_cons fe_int (fa_cons fe_int (fa_cons (fe_un un_neg sr_neg fe_int) (fa_cons (fe_bin op_pow sr_pow fe_int fe_int) (fa_cons fe_str (fa_cons fe_str (fa_cons fe_str (fa_cons fe_str (fa_cons fe_str (fa_cons (fe_tup fa_nil) (fa_cons (fe_lst fa_nil) (fa_cons fe_dict0 (fa_cons (fe_tup (fa_cons fe_str fa_nil)) (fa_cons (fe_tup (fa_cons fe_str fa_nil)) fa_nil)))))))))))))))))) (gv 1 sc_law_odd.nd))
    (fss_one (fs_ret (fe_callK ((ok_law_some T).mono (by omega)) hg hr (fa_cons (fv 0) (fa_cons (fe_bin op_addAll sr_addAll (fv 1) (fe_lst (fa_cons (fe_tup (fa_cons fe_str (fa_cons fe_str (fa_cons fe_str fa_nil)))) (fa_cons (fe_lst (fa_cons fe_str fa_nil)) (fa_cons (fe_dict1 pe_int fun _ _ => .int _) (fa_cons fe_str (fa_cons (fe_tup (fa_cons (fe_tup (fa_cons fe_str (fa_cons fe_str fa_nil))) fa_nil)) (fa_cons (fe_tup (fa_cons fe_str (fa_cons fe_str (fa_cons (fe_tup (fa_cons fe_str fa_nil)) fa_nil)))) (fa_cons fe_str fa_nil))))))))) fa_nil)) (len_cons (len_cons (fun _ _ _ _ => len_nil)))))))
theorem ok_law_bent (T : Txt K mg base) : ∀ n : Nat, Kept P w K mg base (n + 4) "_law_bent" ["bag", "thing", "deep"] (m_law_bent n)
  | 0 => kept_ok T.d_law_bent sc_law_bent rfl fun f cdv A outer s H hg hr => fss_never
  | n + 1 => by
    have ih := ok_law_bent T n
    exact kept_ok T.d_law_bent sc_law_bent rfl fun f cdv A outer s H hg hr => (fss_cons (fs_if (FW.ft (fw_or (ft_cmp (op_eqAll hr) sr_eqAll (by rfl) (fv 2) fe_int) (fw_or1 (ft_cmp (op_eqAll hr) sr_eqAll (by rfl) (fe_callK ((ok_law_take T).mono (by omega)) hg hr (fa_cons (fv 0) (fa_cons fe_int fa_nil)) (len_cons (len_cons (fun _ _ _ _ => len_nil)))) fe_int)))) (fss_one (fs_ret (fe_callK ((ok_law_odd T).mono (by omega)) hg hr (fa_cons (fv 0) fa_nil) (len_cons (fun _ _ _ _ => len_nil))))) fss_nil)
    (fss_cons (fs_if (ft_val (fe_callK ((ok_law_is_int T).mono (by omega)) hg hr (fa_cons (fv 1) fa_nil) (len_cons (fun _ _ _ _ => len_nil)))) (fss_one (fs_ret (fe_callK ((ok_law_some T).mono (by omega)) hg hr (fa_cons (fv 0) (fa_cons (fe_lst (fa_cons (fe_bin op_addAll sr_addAll (fv 1) fe_int) (fa_cons (fe_bin op_sub sr_sub (fv 1) fe_int) (fa_cons fe_int (fa_cons (fe_un un_neg sr_neg (fv 1)) (fa_cons (fe_cmp (op_eqAll hr) sr_eqAll (by rfl) (fv 1) fe_int) (fa_cons fe_non (fa_cons (fe_callTy call_str_int sr_strI (by rfl) T.no_str boot_ty_str (fa_cons (fv 1) fa_nil)) fa_nil)))))))) fa_nil)) (len_cons (len_cons (fun _ _ _ _ => len_nil)))))) fss_nil)
    (fss_cons (fs_if (FW.ft (fw_and (ft_val (fe_callB call_isi sr_isi (by rfl) T.no_isinstance bf_isi (fa_cons (fv 1) (fa_cons (fe_ty (by rfl) T.no_dict boot_ty_dict) fa_nil)))) (fw_and1 (ft_cmp (op_neAll hr) sr_neAll (by rfl) (fv 1) fe_dict0)))) fss_never fss_nil)
    (fss_cons (fs_if (ft_val (fe_callB call_isi sr_isi (by rfl) T.no_isinstance bf_isi (fa_cons (fv 1) (fa_cons (fe_ty (by rfl) T.no_str boot_ty_str) fa_nil)))) (fss_one (fs_ret (fe_callK ((ok_law_some T).mono (by omega)) hg hr (fa_cons (fv 0) (fa_cons (fe_lst (fa_cons (fe_bin op_addAll sr_addAll (fv 1) fe_str) (fa_cons (fe_sl sl_all sr_sl (fv 1) (fo_some fe_int) fo_none) (fa_cons (fe_bin op_addAll sr_addAll (fv 1) fe_str) (fa_cons (fe_upper (fv 1)) (fa_cons fe_str (fa_cons (fe_bin op_mulAll sr_mulAll (fv 1) fe_int) (fa_cons fe_str (fa_cons (fe_bin op_addAll sr_addAll (fv 1) fe_str) (fa_cons fe_str fa_nil)))))))))) fa_nil)) (len_cons (len_cons (fun _ _ _ _ => len_nil)))))) fss_nil)
    (fss_cons (fs_if (FW.ft (fw_or (ft_not (ft_val (fe_callB call_isi sr_isi (by rfl) T.no_isinstance bf_isi (fa_cons (fv 1) (fa_cons (fe_ty (by rfl) T.no_tuple boot_ty_tuple) fa_nil))))) (fw_or1 (ft_cmp (op_eqAll hr) sr_eqAll (by rfl) (fv 1) (fe_tup fa_nil))))) (fss_one (fs_ret (fe_callK ((ok_law_odd T).mono (by omega)) hg hr (fa_cons (fv 0) fa_nil) (len_cons (fun _ _ _ _ => len_nil))))) fss_nil)
    (fss_cons (fs_par rfl sc_law_bent.nd (fa_cons (fe_callK ((ok_law_take T).mono (by omega)) hg hr (fa_cons (fv 0) (fa_cons fe_int fa_nil)) (len_cons (len_cons (fun _ _ _ _ => len_nil)))) (fa_cons (fe_callK ((ok_law_take T).mono (by omega)) hg hr (fa_cons (fv 0) (fa_cons (fe_callB call_lenA sr_len (by rfl) T.no_len bf_len (fa_cons (fv 1) fa_nil)) fa_nil)) (len_cons (len_cons (fun _ _ _ _ => len_nil)))) fa_nil)))
    (fss_cons (fs_if (ft_cmp (op_eqAll hr) sr_eqAll (by rfl) (fv 5) fe_int) (fss_cons (fs_asg (fe_lst (fa_cons (fe_callTy call_list_of sr_list (by rfl) T.no_list boot_ty_list (fa_cons (fv 1) fa_nil)) (fa_cons (fe_rev (fv 1)) (fa_cons (fe_bin op_addAll sr_addAll (fe_sl sl_all sr_sl (fv 1) fo_none (fo_some (fv 6))) (fe_sl sl_all sr_sl (fv 1) (fo_some (fe_bin op_addAll sr_addAll (fv 6) fe_int)) fo_none)) (fa_cons (fe_bin op_addAll sr_addAll (fe_sl sl_all sr_sl (fv 1) fo_none (fo_some (fe_bin op_addAll sr_addAll (fv 6) fe_int))) (fe_sl sl_all sr_sl (fv 1) (fo_some (fv 6)) fo_none)) fa_nil))))) (gv 7 sc_law_bent.nd))
    (fss_one (fs_ret (fe_callK ((ok_law_some T).mono (by omega)) hg hr (fa_cons (fv 0) (fa_cons (fe_bin op_addAll sr_addAll (fv 7) (fe_lst (fa_cons (fe_bin op_addAll sr_addAll (fv 1) (fe_tup (fa_cons fe_non fa_nil))) fa_nil))) fa_nil)) (len_cons (len_cons (fun _ _ _ _ => len_nil))))))) fss_nil)
    (fss_one (fs_ret (fe_bin op_addAll sr_addAll (fe_bin op_addAll sr_addAll (fe_sl sl_all sr_sl (fv 1) fo_none (fo_some (fv 6))) (fe_tup (fa_cons (fe_callK (ih.mono (by omega)) hg hr (fa_cons (fv 0) (fa_cons (fe_ix ix_seq sr_ix (fun _ _ => rfl) (fv 1) (fv 6)) (fa_cons (fe_bin op_sub sr_sub (fv 2) fe_int) fa_nil))) (len_cons (len_cons (len_cons (fun _ _ _ _ => len_nil))))) fa_nil))) (fe_sl sl_all sr_sl (fv 1) (fo_some (fe_bin op_addAll sr_addAll (fv 6) fe_int)) fo_none)))))))))))
theorem ok_law_is_safe (T : Txt K mg base) : Kept P w K mg base 1 "_law_is_safe" ["book"] m_law_is_safe :=
  kept_ok T.d_law_is_safe sc_law_is_safe rfl fun f cdv A outer s H hg hr => (fss_cons (fs_asg (fv 0) (fg_tup rfl (fgs_cons (gv 1 sc_law_is_safe.nd) (fgs_cons (gv 2 sc_law_is_safe.nd) (fgs_cons (gv 3 sc_law_is_safe.nd) (fgs_cons (gv 4 sc_law_is_safe.nd) (fgs_cons (gv 5 sc_law_is_safe.nd) (fgs_cons (gv 6 sc_law_is_safe.nd) (fgs_cons (gv 7 sc_law_is_safe.nd) (fgs_cons (gv 8 sc_law_is_safe.nd) (fgs_cons (gv 9 sc_law_is_safe.nd) fgs_nil)))))))))))
    (fss_cons (fs_if (FW.ft (fw_or (ft_cmp (op_neAll hr) sr_neAll (by rfl) (fv 5) fe_int) (fw_or (ft_cmp (op_neAll hr) sr_neAll (by rfl) (fv 2) (fv 4)) (fw_or1 (ft_cmp op_ltAll sr_lt (by rfl) (fv 2) fe_int))))) (fss_one (fs_ret fe_bl)) fss_nil)
    (fss_cons (fs_if (ft_cmp (op_eqAll hr) sr_eqAll (by rfl) (fv 1) fe_str) (fss_one (fs_ret fe_bl)) fss_nil)
    (fss_cons (fs_if (FW.ft (fw_or (ft_cmp (op_neAll hr) sr_neAll (by rfl) (fv 3) fe_int) (fw_or1 (ft_cmp (op_neAll hr) sr_neAll (by rfl) (fv 9) fe_str)))) (fss_one (fs_ret fe_bl)) fss_nil)
    (fss_one (fs_ret (fe_if (ft_cmp (op_eqAll hr) sr_eqAll (by rfl) (fv 8) fe_str) (fe_not (fe_and (fe_cmp (op_eqAll hr) sr_eqAll (by rfl) (fv 6) fe_str) (fe_one (fe_cmp (op_eqAll hr) sr_eqAll (by rfl) (fv 7) fe_str)))) (fe_and (fe_cmp (op_eqAll hr) sr_eqAll (by rfl) (fv 7) fe_str) (fe_one (fe_cmp (op_neAll hr) sr_neAll (by rfl) (fv 6) fe_str))))))))))
theorem ok_law_book (T : Txt K mg base) : Kept P w K mg base 3 "_law_book" ["bag"] m_law_book :=
  kept_ok T.d_law_book sc_law_book rfl fun f cdv A outer s H hg hr => (fss_cons (fs_par rfl sc_law_book.nd (fa_cons (fe_callK ((ok_law_some T).mono (by omega)) hg hr (fa_cons (fv 0) (fa_cons (fe_lst (fa_cons fe_str (fa_cons fe_str (fa_cons fe_str fa_nil)))) fa_nil)) (len_cons (len_cons (fun _ _ _ _ => len_nil)))) (fa_cons (fe_callK ((ok_law_some T).mono (by omega)) hg hr (fa_cons (fv 0) (fa_cons (fe_lst (fa_cons fe_int (fa_cons fe_int (fa_cons fe_int (fa_cons fe_int fa_nil))))) fa_nil)) (len_cons (len_cons (fun _ _ _ _ => len_nil)))) fa_nil)))
    (fss_cons (fs_asg (fe_callK ((ok_law_some T).mono (by omega)) hg hr (fa_cons (fv 0) (fa_cons (fe_lst (fa_cons fe_str (fa_cons fe_str fa_nil))) fa_nil)) (len_cons (len_cons (fun _ _ _ _ => len_nil)))) (gv 1 sc_law_book.nd))
    (fss_cons (fs_par rfl sc_law_book.nd (fa_cons (fe_callK ((ok_law_some T).mono (by omega)) hg hr (fa_cons (fv 0) (fa_cons (fe_lst (fa_cons fe_str (fa_cons fe_str fa_nil))) fa_nil)) (len_cons (len_cons (fun _ _ _ _ => len_nil)))) (fa_cons fe_str fa_nil)))
    (fss_cons (fs_if (ft_cmp (op_eqAll hr) sr_eqAll (by rfl) (fv 1) fe_str) (fss_one (fs_asg (fe_callK ((ok_law_some T).mono (by omega)) hg hr (fa_cons (fv 0) (fa_cons (fe_lst (fa_cons (fe_tup (fa_cons fe_str (fa_cons fe_str fa_nil))) (fa_cons (fe_tup (fa_cons fe_str (fa_cons fe_str fa_nil))) (fa_cons (fe_tup (fa_cons fe_str (fa_cons fe_str fa_nil))) (fa_cons (fe_tup (fa_cons fe_str (fa_cons fe_str fa_nil))) (fa_cons (fe_tup (fa_cons fe_str (fa_cons fe_str fa_nil))) fa_nil)))))) fa_nil)) (len_cons (len_cons (fun _ _ _ _ => len_nil)))) (fg_tup rfl (fgs_cons (gv 7 sc_law_book.nd) (fgs_cons (gv 8 sc_law_book.nd) fgs_nil))))) fss_nil)
    (fss_cons (fs_asg (fe_lst (fa_cons (fv 5) (fa_cons (fv 6) (fa_cons fe_int (fa_cons (fv 6) (fa_cons fe_int (fa_cons (fv 7) (fa_cons (fv 8) (fa_cons (fv 1) (fa_cons fe_str fa_nil)))))))))) (gv 2 sc_law_book.nd))
    (fss_cons (fs_if (ft_cmp (op_eqAll hr) sr_eqAll (by rfl) (fv 5) fe_str) (fss_one (fs_asg (fe_tup (fa_cons (fe_callK ((ok_law_take T).mono (by omega)) hg hr (fa_cons (fv 0) (fa_cons fe_int fa_nil)) (len_cons (len_cons (fun _ _ _ _ => len_nil)))) (fa_cons (fe_callK ((ok_law_some T).mono (by omega)) hg hr (fa_cons (fv 0) (fa_cons (fe_lst (fa_cons fe_str (fa_cons fe_str fa_nil))) fa_nil)) (len_cons (len_cons (fun _ _ _ _ => len_nil)))) fa_nil))) (fg_tup rfl (fgs_cons (fg_sub (fv 2) fe_int set_list srs_setL) (fgs_cons (fg_sub (fv 2) fe_int set_list srs_setL) fgs_nil))))) fss_nil)
    (fss_cons (fs_asg (fe_bin op_addAll sr_addAll (fe_bin op_addAll sr_addAll (fe_lst (fa_cons (fe_lst (fa_cons fe_str (fa_cons fe_str fa_nil))) fa_nil)) (fe_bin op_mulL sr_mulL (fe_lst (fa_cons (fe_lst (fa_cons fe_int (fa_cons fe_int (fa_cons fe_int (fa_cons fe_int fa_nil))))) fa_nil)) fe_int)) (fe_lst (fa_cons (fe_lst (fa_cons fe_str (fa_cons fe_str (fa_cons fe_str fa_nil)))) (fa_cons (fe_lst (fa_cons fe_str (fa_cons fe_str fa_nil))) (fa_cons (fe_lst (fa_cons fe_str (fa_cons fe_str fa_nil))) (fa_cons (fe_lst (fa_cons fe_str (fa_cons fe_str fa_nil))) fa_nil)))))) (gv 3 sc_law_book.nd))
    (fss_cons (fs_for PassesOwn.never rfl (fi_range1 (by rfl) T.no_range (fa_cons (fe_callK ((ok_law_some T).mono (by omega)) hg hr (fa_cons (fv 0) (fa_cons (fe_lst (fa_cons fe_int (fa_cons fe_int (fa_cons fe_int (fa_cons fe_int (fa_cons fe_int fa_nil)))))) fa_nil)) (len_cons (len_cons (fun _ _ _ _ => len_nil)))) fa_nil)) (gv 4 sc_law_book.nd) (fss_cons (fs_asg (fe_callK ((ok_law_take T).mono (by omega)) hg hr (fa_cons (fv 0) (fa_cons fe_int fa_nil)) (len_cons (len_cons (fun _ _ _ _ => len_nil)))) (gv 9 sc_law_book.nd))
    (fss_one (fs_asg (fe_callK ((ok_law_some T).mono (by omega)) hg hr (fa_cons (fv 0) (fa_cons (fe_ix ix_seq sr_ix (fun _ _ => rfl) (fv 3) (fv 9)) fa_nil)) (len_cons (len_cons (fun _ _ _ _ => len_nil)))) (fg_sub (fv 2) (fv 9) set_list srs_setL)))))
    (fss_one (fs_ret (fe_callTy call_tuple_of sr_tuple (by rfl) T.no_tuple boot_ty_tuple (fa_cons (fv 2) fa_nil))))))))))))
theorem ok_law_is_book (T : Txt K mg base) : Kept P w K mg base 2 "_law_is_book" ["thing"] m_law_is_book :=
  kept_ok T.d_law_is_book sc_law_is_book rfl fun f cdv A outer s H hg hr => (fss_cons (fs_asg (fe_lst (fa_cons (fe_tup (fa_cons fe_str (fa_cons fe_str fa_nil))) (fa_cons fe_non (fa_cons fe_non (fa_cons fe_non (fa_cons fe_non (fa_cons (fe_tup (fa_cons fe_str (fa_cons fe_str (fa_cons fe_str fa_nil)))) (fa_cons (fe_tup (fa_cons fe_str (fa_cons fe_str fa_nil))) (fa_cons (fe_tup (fa_cons fe_str (fa_cons fe_str fa_nil))) (fa_cons (fe_tup (fa_cons fe_str (fa_cons fe_str fa_nil))) fa_nil)))))))))) (gv 1 sc_law_is_book.nd))
    (fss_cons (fs_if (FW.ft (fw_or (ft_not (ft_val (fe_callB call_isi sr_isi (by rfl) T.no_isinstance bf_isi (fa_cons (fv 0) (fa_cons (fe_ty (by rfl) T.no_tuple boot_ty_tuple) fa_nil))))) (fw_or1 (ft_cmp (op_neAll hr) sr_neAll (by rfl) (fe_callB call_lenA sr_len (by rfl) T.no_len bf_len (fa_cons (fv 0) fa_nil)) fe_int)))) (fss_one (fs_ret fe_bl)) fss_nil)
    (fss_cons (fs_for PassesOwn.never rfl (fi_zipM (by rfl) T.no_zip (fa_cons (fv 0) (fa_cons (fv 1) fa_nil))) (fg_tup rfl (fgs_cons (gv 2 sc_law_is_book.nd) (fgs_cons (gv 3 sc_law_is_book.nd) fgs_nil))) (fss_cons (fs_if (FW.ft (fw_and (ft_cmp op_isN sr_isN (by rfl) (fv 3) fe_non) (fw_and1 (FW.ft (fw_or (ft_not (ft_val (fe_callK ((ok_law_is_int T).mono (by omega)) hg hr (fa_cons (fv 2) fa_nil) (len_cons (fun _ _ _ _ => len_nil))))) (fw_or1 (ft_cmp op_ltAll sr_lt (by rfl) (fv 2) fe_int))))))) (fss_one (fs_ret fe_bl)) fss_nil)
    (fss_one (fs_if (FW.ft (fw_and (ft_cmp op_notN sr_notN (by rfl) (fv 3) fe_non) (fw_and1 (FW.ft (fw_or (ft_not (ft_val (fe_callB call_isi sr_isi (by rfl) T.no_isinstance bf_isi (fa_cons (fv 2) (fa_cons (fe_ty (by rfl) T.no_str boot_ty_str) fa_nil))))) (fw_or1 (ft_cmp (op_notInAll hr) sr_inAll (by rfl) (fv 2) (fv 3)))))))) (fss_one (fs_ret fe_bl)) fss_nil))))
    (fss_one (fs_ret fe_bl)))))
theorem ok_law (T : Txt K mg base) {f : Addr} {fd : FuncData} (F : Fun K "law" "law" st_law f fd) : FnG P w K mg base 9 f fd ["script"] (spD K 1 m_law) :=
  fn_ok F sc_law rfl rfl fun cdv A outer s H hg hr => (fss_cons (fs_asg (fe_callK ((ok_law_bag T).mono (by omega)) hg hr (fa_cons (fv 0) fa_nil) (len_cons (fun _ _ _ _ => len_nil))) (gv 1 sc_law.nd))
    (fss_cons (fs_for PassesOwn.never rfl (fi_range1 (by rfl) T.no_range (fa_cons fe_int fa_nil)) (gv 2 sc_law.nd) (fss_cons (fs_asg (fe_callK ((ok_law_book T).mono (by omega)) hg hr (fa_cons (fv 1) fa_nil) (len_cons (fun _ _ _ _ => len_nil))) (gv 3 sc_law.nd))
    (fss_cons (fs_asg (fe_callK ((ok_law_take T).mono (by omega)) hg hr (fa_cons (fv 1) (fa_cons fe_int fa_nil)) (len_cons (len_cons (fun _ _ _ _ => len_nil)))) (gv 4 sc_law.nd))
    (fss_cons (fs_asg (fe_bin op_addAll sr_addAll (fe_bin op_addAll sr_addAll (fe_sl sl_all sr_sl (fv 3) fo_none (fo_some fe_int)) (fe_tup (fa_cons (fe_bin op_pow sr_pow fe_int fe_int) (fa_cons fe_int (fa_cons (fe_bin op_pow sr_pow fe_int fe_int) fa_nil))))) (fe_sl sl_all sr_sl (fv 3) (fo_some fe_int) fo_none)) (gv 5 sc_law.nd))
    (fss_cons (fs_for PassesOwn.never rfl (fi_seq (fe_tup (fa_cons (fv 3) (fa_cons (fv 5) fa_nil)))) (gv 6 sc_law.nd) (fss_one (fs_if (ft_not (ft_val (fe_callK ((ok_law_alike T).mono (by omega)) hg hr (fa_cons (fe_lst (fa_cons (fe_callK ((ok_is_book T).mono (by omega)) hg hr (fa_cons (fv 6) fa_nil) (len_cons (fun _ _ _ _ => len_nil))) (fa_cons (fe_callK ((ok_is_safe T).mono (by omega)) hg hr (fa_cons (fv 6) fa_nil) (len_cons (fun _ _ _ _ => len_nil))) fa_nil))) (fa_cons (fe_lst (fa_cons fe_bl (fa_cons (fe_callK ((ok_law_is_safe T).mono (by omega)) hg hr (fa_cons (fv 6) fa_nil) (len_cons (fun _ _ _ _ => len_nil))) fa_nil))) fa_nil)) (len_cons (len_cons (fun _ _ _ _ => len_nil)))))) (fss_one (fs_ret fe_bl)) fss_nil)))
    (fss_cons (fs_asg (fe_lst (fa_cons (fe_callTy call_list_of sr_list (by rfl) T.no_list boot_ty_list (fa_cons (fv 3) fa_nil)) (fa_cons (fe_sl sl_all sr_sl (fv 3) fo_none (fo_some fe_int)) (fa_cons (fe_bin op_addAll sr_addAll (fv 3) (fe_tup (fa_cons fe_str fa_nil))) (fa_cons (fe_rev (fv 3)) (fa_cons (fe_bin op_addAll sr_addAll (fe_bin op_addAll sr_addAll (fe_sl sl_all sr_sl (fv 3) fo_none (fo_some (fv 4))) (fe_tup (fa_cons (fe_callK ((ok_law_odd T).mono (by omega)) hg hr (fa_cons (fv 1) fa_nil) (len_cons (fun _ _ _ _ => len_nil))) fa_nil))) (fe_sl sl_all sr_sl (fv 3) (fo_some (fe_bin op_addAll sr_addAll (fv 4) fe_int)) fo_none)) (fa_cons (fe_callK ((ok_law_odd T).mono (by omega)) hg hr (fa_cons (fv 1) fa_nil) (len_cons (fun _ _ _ _ => len_nil))) (fa_cons (fe_callK ((ok_law_bent T 4).mono (by omega)) hg hr (fa_cons (fv 1) (fa_cons (fv 3) (fa_cons fe_int fa_nil))) (len_cons (len_cons (len_cons (fun _ _ _ _ => len_nil))))) fa_nil)))))))) (gv 7 sc_law.nd))
    (fss_one (fs_for PassesOwn.never rfl (fi_seq (fv 7)) (gv 8 sc_law.nd) (fss_cons (fs_asg (fe_callB (call_reprA T.sys hg hr) sr_repr (by rfl) T.no_repr bf_repr (fa_cons (fv 8) fa_nil)) (gv 9 sc_law.nd))
    (fss_one (fs_if (FW.ft (fw_or (ft_not (ft_val (fe_callK ((ok_law_alike T).mono (by omega)) hg hr (fa_cons (fe_callK ((ok_is_book T).mono (by omega)) hg hr (fa_cons (fv 8) fa_nil) (len_cons (fun _ _ _ _ => len_nil))) (fa_cons (fe_callK ((ok_law_is_book T).mono (by omega)) hg hr (fa_cons (fv 8) fa_nil) (len_cons (fun _ _ _ _ => len_nil))) fa_nil)) (len_cons (len_cons (fun _ _ _ _ => len_nil)))))) (fw_or1 (ft_cmp (op_neAll hr) sr_neAll (by rfl) (fe_callB (call_reprA T.sys hg hr) sr_repr (by rfl) T.no_repr bf_repr (fa_cons (fv 8) fa_nil)) (fv 9))))) (fss_one (fs_ret fe_bl)) fss_nil)))))))))))
    (fss_one (fs_ret fe_bl))))
end
theorem all_mk {P : Program} {w : World} {K : PySem.W.Frag} {h : Heap} {mg : Str → Option Value} {fa f0 f1 f2 f3 f4 f5 f6 f7 f8 f9 f10 f11 f12 f13 f14 f15 : Addr} (X : K.In h) (G : h.Ns mainGlobals mg) (hfa : mg "law" = some (.ref fa))
    {od0 an0 od1 an1 od2 an2 od3 an3 od4 an4 od5 an5 od6 an6 od7 an7 od8 an8 od9 an9 od10 an10 od11 an11 od12 an12 od13 an13 od14 an14 od15 an15 : Option Addr} {sl0 sl1 sl2 sl3 sl4 sl5 sl6 sl7 sl8 sl9 sl10 sl11 sl12 sl13 sl14 sl15 : Array (Option Value)} {oc0 kV0 dc0 pm0 cd0 ct0 oc1 kV1 dc1 pm1 cd1 ct1 oc2 kV2 dc2 pm2 cd2 ct2 oc3 kV3 dc3 pm3 cd3 ct3 oc4 kV4 dc4 pm4 cd4 ct4 oc5 kV5 dc5 pm5 cd5 ct5 oc6 kV6 dc6 pm6 cd6 ct6 oc7 kV7 dc7 pm7 cd7 ct7 oc8 kV8 dc8 pm8 cd8 ct8 oc9 kV9 dc9 pm9 cd9 ct9 oc10 kV10 dc10 pm10 cd10 ct10 oc11 kV11 dc11 pm11 cd11 ct11 oc12 kV12 dc12 pm12 cd12 ct12 oc13 kV13 dc13 pm13 cd13 ct13 oc14 kV14 dc14 pm14 cd14 ct14 oc15 kV15 dc15 pm15 cd15 ct15 : Value}
    (a0 : PySem.W.nsIn K mainGlobals "is_integer" = some (some (.ref f0))) (l0 : K.lookup f0 = some ⟨oc0, od0, .func (PySem.W.fnOf "is_integer" "is_integer" (defArgs st_is_integer) (defBody st_is_integer) (defScope st_is_integer) .none kV0 dc0 pm0 an0 cd0 ct0), sl0⟩) (c0 : PySem.W.codeIn K cd0 "is_integer" = true) (k0 : PySem.W.keepIn K (.ref f0) = true)
    (a1 : PySem.W.nsIn K mainGlobals "is_row" = some (some (.ref f1))) (l1 : K.lookup f1 = some ⟨oc1, od1, .func (PySem.W.fnOf "is_row" "is_row" (defArgs st_is_row) (defBody st_is_row) (defScope st_is_row) .none kV1 dc1 pm1 an1 cd1 ct1), sl1⟩) (c1 : PySem.W.codeIn K cd1 "is_row" = true) (k1 : PySem.W.keepIn K (.ref f1) = true)
    (a2 : PySem.W.nsIn K mainGlobals "is_book" = some (some (.ref f2))) (l2 : K.lookup f2 = some ⟨oc2, od2, .func (PySem.W.fnOf "is_book" "is_book" (defArgs st_is_book) (defBody st_is_book) (defScope st_is_book) .none kV2 dc2 pm2 an2 cd2 ct2), sl2⟩) (c2 : PySem.W.codeIn K cd2 "is_book" = true) (k2 : PySem.W.keepIn K (.ref f2) = true)
    (a3 : PySem.W.nsIn K mainGlobals "is_safe" = some (some (.ref f3))) (l3 : K.lookup f3 = some ⟨oc3, od3, .func (PySem.W.fnOf "is_safe" "is_safe" (defArgs st_is_safe) (defBody st_is_safe) (defScope st_is_safe) .none kV3 dc3 pm3 an3 cd3 ct3), sl3⟩) (c3 : PySem.W.codeIn K cd3 "is_safe" = true) (k3 : PySem.W.keepIn K (.ref f3) = true)
    (a4 : PySem.W.nsIn K mainGlobals "_law_bag" = some (some (.ref f4))) (l4 : K.lookup f4 = some ⟨oc4, od4, .func (PySem.W.fnOf "_law_bag" "_law_bag" (defArgs st_law_bag) (defBody st_law_bag) (defScope st_law_bag) .none kV4 dc4 pm4 an4 cd4 ct4), sl4⟩) (c4 : PySem.W.codeIn K cd4 "_law_bag" = true) (k4 : PySem.W.keepIn K (.ref f4) = true)
    (a5 : PySem.W.nsIn K mainGlobals "_law_take" = some (some (.ref f5))) (l5 : K.lookup f5 = some ⟨oc5, od5, .func (PySem.W.fnOf "_law_take" "_law_take" (defArgs st_law_take) (defBody st_law_take) (defScope st_law_take) .none kV5 dc5 pm5 an5 cd5 ct5), sl5⟩) (c5 : PySem.W.codeIn K cd5 "_law_take" = true) (k5 : PySem.W.keepIn K (.ref f5) = true)
    (a6 : PySem.W.nsIn K mainGlobals "_law_some" = some (some (.ref f6))) (l6 : K.lookup f6 = some ⟨oc6, od6, .func (PySem.W.fnOf "_law_some" "_law_some" (defArgs st_law_some) (defBody st_law_some) (defScope st_law_some) .none kV6 dc6 pm6 an6 cd6 ct6), sl6⟩) (c6 : PySem.W.codeIn K cd6 "_law_some" = true) (k6 : PySem.W.keepIn K (.ref f6) = true)
    (a7 : PySem.W.nsIn K mainGlobals "_law_mixed" = some (some (.ref f7))) (l7 : K.lookup f7 = some ⟨oc7, od7, .func (PySem.W.fnOf "_law_mixed" "_law_mixed" (defArgs st_law_mixed) (defBody st_law_mixed) (defScope st_law_mixed) .none kV7 dc7 pm7 an7 cd7 ct7), sl7⟩) (c7 : PySem.W.codeIn K cd7 "_law_mixed" = true) (k7 : PySem.W.keepIn K (.ref f7) = true)
    (a8 : PySem.W.nsIn K mainGlobals "_law_alike" = some (some (.ref f8))) (l8 : K.lookup f8 = some ⟨oc8, od8, .func (PySem.W.fnOf "_law_alike" "_law_alike" (defArgs st_law_alike) (defBody st_law_alike) (defScope st_law_alike) .none kV8 dc8 pm8 an8 cd8 ct8), sl8⟩) (c8 : PySem.W.codeIn K cd8 "_law_alike" = true) (k8 : PySem.W.keepIn K (.ref f8) = true)
    (a9 : PySem.W.nsIn K mainGlobals "_law_is_int" = some (some (.ref f9))) (l9 : K.lookup f9 = some ⟨oc9, od9, .func (PySem.W.fnOf "_law_is_int" "_law_is_int" (defArgs st_law_is_int) (defBody st_law_is_int) (defScope st_law_is_int) .none kV9 dc9 pm9 an9 cd9 ct9), sl9⟩) (c9 : PySem.W.codeIn K cd9 "_law_is_int" = true) (k9 : PySem.W.keepIn K (.ref f9) = true)
    (a10 : PySem.W.nsIn K mainGlobals "_law_odd" = some (some (.ref f10))) (l10 : K.lookup f10 = some ⟨oc10, od10, .func (PySem.W.fnOf "_law_odd" "_law_odd" (defArgs st_law_odd) (defBody st_law_odd) (defScope st_law_odd) .none kV10 dc10 pm10 an10 cd10 ct10), sl10⟩) (c10 : PySem.W.codeIn K cd10 "_law_odd" = true) (k10 : PySem.W.keepIn K (.ref f10) = true)
    (a11 : PySem.W.nsIn K mainGlobals "_law_bent" = some (some (.ref f11))) (l11 : K.lookup f11 = some ⟨oc11, od11, .func (PySem.W.fnOf "_law_bent" "_law_bent" (defArgs st_law_bent) (defBody st_law_bent) (defScope st_law_bent) .none kV11 dc11 pm11 an11 cd11 ct11), sl11⟩) (c11 : PySem.W.codeIn K cd11 "_law_bent" = true) (k11 : PySem.W.keepIn K (.ref f11) = true)
    (a12 : PySem.W.nsIn K mainGlobals "_law_is_safe" = some (some (.ref f12))) (l12 : K.lookup f12 = some ⟨oc12, od12, .func (PySem.W.fnOf "_law_is_safe" "_law_is_safe" (defArgs st_law_is_safe) (defBody st_law_is_safe) (defScope st_law_is_safe) .none kV12 dc12 pm12 an12 cd12 ct12), sl12⟩) (c12 : PySem.W.codeIn K cd12 "_law_is_safe" = true) (k12 : PySem.W.keepIn K (.ref f12) = true)
    (a13 : PySem.W.nsIn K mainGlobals "_law_book" = some (some (.ref f13))) (l13 : K.lookup f13 = some ⟨oc13, od13, .func (PySem.W.fnOf "_law_book" "_law_book" (defArgs st_law_book) (defBody st_law_book) (defScope st_law_book) .none kV13 dc13 pm13 an13 cd13 ct13), sl13⟩) (c13 : PySem.W.codeIn K cd13 "_law_book" = true) (k13 : PySem.W.keepIn K (.ref f13) = true)
    (a14 : PySem.W.nsIn K mainGlobals "_law_is_book" = some (some (.ref f14))) (l14 : K.lookup f14 = some ⟨oc14, od14, .func (PySem.W.fnOf "_law_is_book" "_law_is_book" (defArgs st_law_is_book) (defBody st_law_is_book) (defScope st_law_is_book) .none kV14 dc14 pm14 an14 cd14 ct14), sl14⟩) (c14 : PySem.W.codeIn K cd14 "_law_is_book" = true) (k14 : PySem.W.keepIn K (.ref f14) = true)
    (a15 : PySem.W.nsIn K mainGlobals "law" = some (some (.ref f15))) (l15 : K.lookup f15 = some ⟨oc15, od15, .func (PySem.W.fnOf "law" "law" (defArgs st_law) (defBody st_law) (defScope st_law) .none kV15 dc15 pm15 an15 cd15 ct15), sl15⟩) (c15 : PySem.W.codeIn K cd15 "law" = true) (k15 : PySem.W.keepIn K (.ref f15) = true)
    {A_DRAINS_0 : Addr} (e_DRAINS : PySem.W.nsIn K mainGlobals "DRAINS" = some (some (.ref A_DRAINS_0)))
    {n_DRAINS_0 : Nat} {s_DRAINS_0 : Array (Option Value)} {t_DRAINS_0_0 : Tok} {t_DRAINS_0_1 : Tok} (l_DRAINS_0 : K.lookup A_DRAINS_0 = some ⟨.type "tuple", none, .seq #[.str "ahead" t_DRAINS_0_0, .str "behind" t_DRAINS_0_1] n_DRAINS_0, s_DRAINS_0⟩)
    {A_FINDS_0 : Addr} (e_FINDS : PySem.W.nsIn K mainGlobals "FINDS" = some (some (.ref A_FINDS_0)))
    {n_FINDS_0 : Nat} {s_FINDS_0 : Array (Option Value)} {t_FINDS_0_0 : Tok} {t_FINDS_0_1 : Tok} (l_FINDS_0 : K.lookup A_FINDS_0 = some ⟨.type "tuple", none, .seq #[.str "any" t_FINDS_0_0, .str "live" t_FINDS_0_1] n_FINDS_0, s_FINDS_0⟩)
    {A_HOLDS_0 : Addr} (e_HOLDS : PySem.W.nsIn K mainGlobals "HOLDS" = some (some (.ref A_HOLDS_0)))
    {n_HOLDS_0 : Nat} {s_HOLDS_0 : Array (Option Value)} {t_HOLDS_0_0 : Tok} {t_HOLDS_0_1 : Tok} (l_HOLDS_0 : K.lookup A_HOLDS_0 = some ⟨.type "tuple", none, .seq #[.str "address" t_HOLDS_0_0, .str "index" t_HOLDS_0_1] n_HOLDS_0, s_HOLDS_0⟩)
    {A_STRIKES_0 : Addr} (e_STRIKES : PySem.W.nsIn K mainGlobals "STRIKES" = some (some (.ref A_STRIKES_0)))
    {n_STRIKES_0 : Nat} {s_STRIKES_0 : Array (Option Value)} {t_STRIKES_0_0 : Tok} {t_STRIKES_0_1 : Tok} {t_STRIKES_0_2 : Tok} (l_STRIKES_0 : K.lookup A_STRIKES_0 = some ⟨.type "tuple", none, .seq #[.str "always" t_STRIKES_0_0, .str "never" t_STRIKES_0_1, .str "own" t_STRIKES_0_2] n_STRIKES_0, s_STRIKES_0⟩)
    {A_WAYS_0 : Addr} (e_WAYS : PySem.W.nsIn K mainGlobals "WAYS" = some (some (.ref A_WAYS_0)))
    {n_WAYS_0 : Nat} {s_WAYS_0 : Array (Option Value)} {t_WAYS_0_0 : Tok} {t_WAYS_0_1 : Tok} (l_WAYS_0 : K.lookup A_WAYS_0 = some ⟨.type "tuple", none, .seq #[.str "fresh" t_WAYS_0_0, .str "kept" t_WAYS_0_1] n_WAYS_0, s_WAYS_0⟩)
    (z_abs : PySem.W.nsIn K mainGlobals "abs" = some none)
    (z_all : PySem.W.nsIn K mainGlobals "all" = some none)
    (z_bool : PySem.W.nsIn K mainGlobals "bool" = some none)
    (z_dict : PySem.W.nsIn K mainGlobals "dict" = some none)
    (z_int : PySem.W.nsIn K mainGlobals "int" = some none)
    (z_isinstance : PySem.W.nsIn K mainGlobals "isinstance" = some none)
    (z_len : PySem.W.nsIn K mainGlobals "len" = some none)
    (z_list : PySem.W.nsIn K mainGlobals "list" = some none)
    (z_range : PySem.W.nsIn K mainGlobals "range" = some none)
    (z_repr : PySem.W.nsIn K mainGlobals "repr" = some none)
    (z_str : PySem.W.nsIn K mainGlobals "str" = some none)
    (z_tuple : PySem.W.nsIn K mainGlobals "tuple" = some none)
    (z_zip : PySem.W.nsIn K mainGlobals "zip" = some none)
    : ∃ fd : FuncData, (∀ (s : Shared) (v : Value), BindsTo s fd ⟨[v], []⟩ [("script", v)]) ∧ ∀ base : Heap, K.In base → base.Ns mainGlobals mg → SysAt base → FnG P w K mg base 9 fa fd ["script"] (spD K 1 m_law) := by
  have e := hfa.symm.trans (PySem.W.mg_of X G a15)
  cases e
  have F0 := fun_mk (st := st_is_integer) l0 c0 k0
  have b0 := F0.binds (ps := ["thing"]) fun _ _ _ _ _ _ us hl => match us, hl with | [_], _ => rfl
  have F1 := fun_mk (st := st_is_row) l1 c1 k1
  have b1 := F1.binds (ps := ["length", "thing"]) fun _ _ _ _ _ _ us hl => match us, hl with | [_, _], _ => rfl
  have F2 := fun_mk (st := st_is_book) l2 c2 k2
  have b2 := F2.binds (ps := ["thing"]) fun _ _ _ _ _ _ us hl => match us, hl with | [_], _ => rfl
  have F3 := fun_mk (st := st_is_safe) l3 c3 k3
  have b3 := F3.binds (ps := ["book"]) fun _ _ _ _ _ _ us hl => match us, hl with | [_], _ => rfl
  have F4 := fun_mk (st := st_law_bag) l4 c4 k4
  have b4 := F4.binds (ps := ["script"]) fun _ _ _ _ _ _ us hl => match us, hl with | [_], _ => rfl
  have F5 := fun_mk (st := st_law_take) l5 c5 k5
  have b5 := F5.binds (ps := ["bag", "many"]) fun _ _ _ _ _ _ us hl => match us, hl with | [_, _], _ => rfl
  have F6 := fun_mk (st := st_law_some) l6 c6 k6
  have b6 := F6.binds (ps := ["bag", "things"]) fun _ _ _ _ _ _ us hl => match us, hl with | [_, _], _ => rfl
  have F7 := fun_mk (st := st_law_mixed) l7 c7 k7
  have b7 := F7.binds (ps := ["bag", "things"]) fun _ _ _ _ _ _ us hl => match us, hl with | [_, _], _ => rfl
  have F8 := fun_mk (st := st_law_alike) l8 c8 k8
  have b8 := F8.binds (ps := ["found", "due"]) fun _ _ _ _ _ _ us hl => match us, hl with | [_, _], _ => rfl
  have F9 := fun_mk (st := st_law_is_int) l9 c9 k9
  have b9 := F9.binds (ps := ["thing"]) fun _ _ _ _ _ _ us hl => match us, hl with | [_], _ => rfl
  have F10 := fun_mk (st := st_law_odd) l10 c10 k10
  have b10 := F10.binds (ps := ["bag"]) fun _ _ _ _ _ _ us hl => match us, hl with | [_], _ => rfl
  have F11 := fun_mk (st := st_law_bent) l11 c11 k11
  have b11 := F11.binds (ps := ["bag", "thing", "deep"]) fun _ _ _ _ _ _ us hl => match us, hl with | [_, _, _], _ => rfl
  have F12 := fun_mk (st := st_law_is_safe) l12 c12 k12
  have b12 := F12.binds (ps := ["book"]) fun _ _ _ _ _ _ us hl => match us, hl with | [_], _ => rfl
  have F13 := fun_mk (st := st_law_book) l13 c13 k13
  have b13 := F13.binds (ps := ["bag"]) fun _ _ _ _ _ _ us hl => match us, hl with | [_], _ => rfl
  have F14 := fun_mk (st := st_law_is_book) l14 c14 k14
  have b14 := F14.binds (ps := ["thing"]) fun _ _ _ _ _ _ us hl => match us, hl with | [_], _ => rfl
  have F15 := fun_mk (st := st_law) l15 c15 k15
  have b15 := F15.binds (ps := ["script"]) fun _ _ _ _ _ _ us hl => match us, hl with | [_], _ => rfl
  have T : ∀ base : Heap, SysAt base → Txt K mg base := fun base hS => ⟨⟨_, _, F0, b0, PySem.W.mg_of X G a0⟩, ⟨_, _, F1, b1, PySem.W.mg_of X G a1⟩, ⟨_, _, F2, b2, PySem.W.mg_of X G a2⟩, ⟨_, _, F3, b3, PySem.W.mg_of X G a3⟩, ⟨_, _, F4, b4, PySem.W.mg_of X G a4⟩, ⟨_, _, F5, b5, PySem.W.mg_of X G a5⟩, ⟨_, _, F6, b6, PySem.W.mg_of X G a6⟩, ⟨_, _, F7, b7, PySem.W.mg_of X G a7⟩, ⟨_, _, F8, b8, PySem.W.mg_of X G a8⟩, ⟨_, _, F9, b9, PySem.W.mg_of X G a9⟩, ⟨_, _, F10, b10, PySem.W.mg_of X G a10⟩, ⟨_, _, F11, b11, PySem.W.mg_of X G a11⟩, ⟨_, _, F12, b12, PySem.W.mg_of X G a12⟩, ⟨_, _, F13, b13, PySem.W.mg_of X G a13⟩, ⟨_, _, F14, b14, PySem.W.mg_of X G a14⟩, ⟨_, _, F15, b15, PySem.W.mg_of X G a15⟩, PySem.W.mg_none_of X G z_abs, PySem.W.mg_none_of X G z_all, PySem.W.mg_none_of X G z_bool, PySem.W.mg_none_of X G z_dict, PySem.W.mg_none_of X G z_int, PySem.W.mg_none_of X G z_isinstance, PySem.W.mg_none_of X G z_len, PySem.W.mg_none_of X G z_list, PySem.W.mg_none_of X G z_range, PySem.W.mg_none_of X G z_repr, PySem.W.mg_none_of X G z_str, PySem.W.mg_none_of X G z_tuple, PySem.W.mg_none_of X G z_zip, ⟨_, PySem.W.mg_of X G e_DRAINS, (kd_tup l_DRAINS_0 (Nat.le_of_ble_eq_true rfl) (kdl_cons (kd_str _ _) (kdl_cons (kd_str _ _) kdl_nil)))⟩, ⟨_, PySem.W.mg_of X G e_FINDS, (kd_tup l_FINDS_0 (Nat.le_of_ble_eq_true rfl) (kdl_cons (kd_str _ _) (kdl_cons (kd_str _ _) kdl_nil)))⟩, ⟨_, PySem.W.mg_of X G e_HOLDS, (kd_tup l_HOLDS_0 (Nat.le_of_ble_eq_true rfl) (kdl_cons (kd_str _ _) (kdl_cons (kd_str _ _) kdl_nil)))⟩, ⟨_, PySem.W.mg_of X G e_STRIKES, (kd_tup l_STRIKES_0 (Nat.le_of_ble_eq_true rfl) (kdl_cons (kd_str _ _) (kdl_cons (kd_str _ _) (kdl_cons (kd_str _ _) kdl_nil))))⟩, ⟨_, PySem.W.mg_of X G e_WAYS, (kd_tup l_WAYS_0 (Nat.le_of_ble_eq_true rfl) (kdl_cons (kd_str _ _) (kdl_cons (kd_str _ _) kdl_nil)))⟩, hS⟩
  exact ⟨PySem.W.fnOf "law" "law" (defArgs st_law) (defBody st_law) (defScope st_law) .none kV15 dc15 pm15 an15 cd15 ct15, fun s v => .of_eq rfl, fun base _ _ hS => ok_law (T base hS) F15⟩
end
end Fe.k28
namespace Fe.k28
open PySem PySem.Spec PyProof.Rows L2 Fe
theorem take_is : m_law_take = m_take := rfl
theorem some_is : m_law_some = m_some := rfl
theorem mixed_is : m_law_mixed = m_mixed := rfl
theorem alike_is : m_law_alike = m_alike := rfl
theorem odd_is : m_law_odd = m_odd := rfl
theorem int_ok {st : Sto} {d : D} {t : String} (h : tyName st d = some t) : m_law_is_int [d] st = some (.bl (isK t "int" && !isK t "bool"), st) := by
  refine wp_app (Q := fun _ _ => True) ?_
  unfold m_law_is_int
  rw [wp_runB]
  show Wp (sRet _ [some d]) st _
  rw [wp_sRet, wp_and]
  simp only [wp_call, wp_cons, wp_nil, wp_var, wp_c, wp_eNot, List.getElem?_cons_zero, Option.some.injEq, exists_eq_left', wp_isiV h (show "int" ∈ ["int", "bool", "str", "tuple", "list", "dict"] by decide), wp_isiV h (show "bool" ∈ ["int", "bool", "str", "tuple", "list", "dict"] by decide), D.bl.injEq]
  cases isK t "int" <;> simp
theorem small_str {x : Str} (h : x.length ≤ 1000000) : x.length ≤ sizeLine := Nat.le_trans h (by decide)
theorem ty_str {st : Sto} {d : D} {t : String} (h : tyName st d = some t) : isK t "str" = (match d with | .str _ => true | _ => false) := by
  cases d with
  | loc l => simp only [tyName] at h; split at h <;> cases h <;> rfl
  | _ => cases h <;> rfl
theorem ty_tup {st : Sto} {d : D} {t : String} (h : tyName st d = some t) : isK t "tuple" = (match d with | .tup _ => true | .ptp _ => true | _ => false) := by
  cases d with
  | loc l => simp only [tyName] at h; split at h <;> cases h <;> rfl
  | _ => cases h <;> rfl
def TX : List Str := ["fresh", "kept", "always", "never", "own", "any", "live", "ahead", "behind", "address", "index"]
def niceS (x : Str) : Bool := asB' x && decide (10 * x.length + 2 ≤ 4000)
theorem tx_chk : ∀ x, x ∈ TX → (niceS (x ++ "a") && niceS (cutS x (some 1) none) && niceS (x ++ "1") && niceS (Txt.upper x) && niceS (repS x 12) && niceS (x ++ "\n") && decide (x.length ≤ 13) && niceS x) = true := by decide +kernel
def InV : Nat → D → Prop
  | _, .str x => x ∈ TX
  | _, .int i => 0 ≤ i ∧ i ≤ 3
  | j + 1, .tup xs => xs.length ≤ 9 ∧ ∀ x, x ∈ xs → InV j x
  | _, _ => False
def Bj : Nat → Nat
  | 0 => 4000
  | j + 1 => 3 + 19 * (Bj j + 2)
theorem bj_ge : ∀ j, 4000 ≤ Bj j
  | 0 => Nat.le_refl _
  | j + 1 => by have := bj_ge j; simp only [Bj]; omega
theorem nice_pv {st : Sto} {b k B : Nat} {x : Str} (h : niceS x = true) (hB : 4000 ≤ B) : PV st b k B (.str x) := by
  simp only [niceS, Bool.and_eq_true, decide_eq_true_eq] at h
  exact pv_str h.1 (by omega)
theorem nice_xv {st : Sto} {b k B : Nat} {x : Str} (h : niceS x = true) (hB : 4000 ≤ B) : XV st b k B (.str x) := by
  simp only [niceS, Bool.and_eq_true, decide_eq_true_eq] at h
  exact xv_str h.1 (by omega)
theorem tx_nice {x : Str} (h : x ∈ TX) : niceS x = true ∧ x.length ≤ 13 := by
  have := tx_chk x h
  simp only [Bool.and_eq_true, decide_eq_true_eq] at this
  exact ⟨this.2, this.1.2⟩
theorem i3 {i : Int} (h0 : 0 ≤ i) (h1 : i ≤ 3) : i = 0 ∨ i = 1 ∨ i = 2 ∨ i = 3 := by omega
theorem i3_ok {i : Int} (h0 : 0 ≤ i) (h1 : i ≤ 3) : intOk i = true := by
  rcases i3 h0 h1 with e | e | e | e <;> rw [e] <;> decide +kernel
theorem in_pv {st : Sto} {b : Nat} : ∀ (j : Nat) (d : D), InV j d → PV st b j (Bj j) d ∧ XV st b j (Bj j) d
  | j, .str x, h => by
    have h' : x ∈ TX := by cases j <;> exact h
    exact ⟨nice_pv (tx_nice h').1 (bj_ge j), nice_xv (tx_nice h').1 (bj_ge j)⟩
  | j, .int i, h => by
    have h' : 0 ≤ i ∧ i ≤ 3 := by cases j <;> exact h
    exact ⟨pv_int (i3_ok h'.1 h'.2) (by have := bj_ge j; omega), xv_int (i3_ok h'.1 h'.2) (by have := bj_ge j; omega)⟩
  | j + 1, .tup xs, h => by
    obtain ⟨hl, hx⟩ := h
    exact ⟨pv_tup (n := 9) (fun x hm => (in_pv j x (hx x hm)).1) hl (by simp only [Bj]; omega), xv_tup (n := 9) (fun x hm => (in_pv j x (hx x hm)).2) hl (by simp only [Bj]; omega)⟩
  | 0, .tup _, h => h.elim
  | 0, .non, h => h.elim
  | 0, .bl _, h => h.elim
  | 0, .ptp _, h => h.elim
  | 0, .exc _ _ _, h => h.elim
  | 0, .rol _, h => h.elim
  | 0, .loc _, h => h.elim
  | 0, .ty _, h => h.elim
  | _ + 1, .non, h => h.elim
  | _ + 1, .bl _, h => h.elim
  | _ + 1, .ptp _, h => h.elim
  | _ + 1, .exc _ _ _, h => h.elim
  | _ + 1, .rol _, h => h.elim
  | _ + 1, .loc _, h => h.elim
  | _ + 1, .ty _, h => h.elim
theorem in_kind : ∀ {j : Nat} {d : D}, InV j d → (∃ x, d = .str x ∧ x ∈ TX) ∨ (∃ i : Int, d = .int i ∧ 0 ≤ i ∧ i ≤ 3) ∨ ∃ i xs, j = i + 1 ∧ d = .tup xs ∧ xs.length ≤ 9 ∧ ∀ x, x ∈ xs → InV i x := by
  intro j d h
  cases d with
  | str x => exact .inl ⟨x, rfl, by cases j <;> exact h⟩
  | int x => exact .inr (.inl ⟨x, rfl, by cases j <;> exact h⟩)
  | tup xs =>
    cases j with
    | zero => exact h.elim
    | succ i => exact .inr (.inr ⟨i, xs, rfl, rfl, h.1, h.2⟩)
  | _ => cases j <;> exact h.elim
theorem wp_seqE {g h : Fs} {r : DEnv} {st : Sto} {Fin : D → Sto → Prop} (N : DEnv → Sto → Prop) (h1 : Wp (g r) st fun o s => (∃ v, o = .rt v ∧ Fin v s) ∨ (∃ r1, o = .nx r1 ∧ N r1 s))
    (h2 : ∀ r1 s, N r1 s → Wp (h r1) s fun o s => ∃ v, o = .rt v ∧ Fin v s) : Wp (sSeq g h r) st fun o s => ∃ v, o = .rt v ∧ Fin v s := by
  rw [wp_seq]
  refine h1.mono fun o s q => ?_
  rcases q with ⟨v, e, f⟩ | ⟨r1, e, n⟩
  · subst e; exact ⟨v, rfl, f⟩
  · subst e; exact h2 r1 s n
theorem wp_eqT0 {st : Sto} {b k B : Nat} {xs : List D} {Q} (h : PV st b k B (.tup xs)) (hk : k ≤ 60) : Wp (gEqA (.tup xs) (.tup [])) st Q ↔ Q (.bl xs.isEmpty) st := by
  obtain ⟨p, e, _, hd, _, hc⟩ := h
  have e1 := toPy_mono (s' := st) Sub.hid _ 70 _ _ (by omega) e
  have sp : SeqAt.shaped p = true := by unfold SeqAt.shaped; rw [hc, decide_eq_true (show p.depth ≤ 64 by omega)]; rfl
  have s0 : SeqAt.shaped (.tuple []) = true := by unfold SeqAt.shaped PyData.canLay0 PyData.depth; rfl
  rw [wp_eqP e1 (show toPy st 70 (.tup []) = some (.tuple []) from rfl) sp s0]
  have : PyData.eqv p (.tuple []) = xs.isEmpty := by
    simp only [toPy] at e1
    cases q : xs.mapM (toPy st 69) with
    | none => rw [q] at e1; cases e1
    | some ps =>
      rw [q] at e1; cases e1
      cases xs with
      | nil =>
        have : ps = [] := by simpa using q
        subst this; rfl
      | cons x xs =>
        obtain ⟨y, ys, _, _, e⟩ := mapM_cons q
        subst e; rfl
  rw [this]
def bt1 : Fs := sIf (tOrF (asB (eBin gEqA (eVar 2) (eC (.int 0)))) (asB (eBin gEqA (eCall m_take (aCons (eVar 0) (aCons (eC (.int 9)) aNil))) (eC (.int 0))))) (sRet (eCall m_odd (aCons (eVar 0) aNil))) sNil
def bt2l : Fa := aCons (eBin gAdd (eVar 1) (eC (.int 1))) (aCons (eBin gSub (eVar 1) (eC (.int 1))) (aCons (eC (.int 0)) (aCons (eUn gNeg (eVar 1)) (aCons (eBin gEqA (eVar 1) (eC (.int 1))) (aCons (eC .non) (aCons (eCall gStrI (aCons (eVar 1) aNil)) aNil))))))
def bt2 : Fs := sIf (asB (eCall m_law_is_int (aCons (eVar 1) aNil))) (sRet (eCall m_some (aCons (eVar 0) (aCons (eLst bt2l) aNil)))) sNil
def bt3 : Fs := sIf (tAndF (asB (eCall gIsi (aCons (eVar 1) (aCons (eC (.ty "dict")) aNil)))) (asB (eBin gNeA (eVar 1) eDict0))) sNever sNil
def bt4l : Fa := aCons (eBin gAdd (eVar 1) (eC (.str "a"))) (aCons (eSl gSl (eVar 1) (oSome (eC (.int 1))) oNone) (aCons (eBin gAdd (eVar 1) (eC (.str "1"))) (aCons (eMeth gUpper (eVar 1) aNil) (aCons (eC (.str "no")) (aCons (eBin gMul (eVar 1) (eC (.int 12))) (aCons (eC (.str "thing")) (aCons (eBin gAdd (eVar 1) (eC (.str "\n"))) (aCons (eC (.str "given")) aNil))))))))
def bt4 : Fs := sIf (asB (eCall gIsi (aCons (eVar 1) (aCons (eC (.ty "str")) aNil)))) (sRet (eCall m_some (aCons (eVar 0) (aCons (eLst bt4l) aNil)))) sNil
def bt5 : Fs := sIf (tOrF (tNotF (asB (eCall gIsi (aCons (eVar 1) (aCons (eC (.ty "tuple")) aNil))))) (asB (eBin gEqA (eVar 1) (eTup aNil)))) (sRet (eCall m_odd (aCons (eVar 0) aNil))) sNil
def bt6 : Fs := sPar 5 6 (aCons (eCall m_take (aCons (eVar 0) (aCons (eC (.int 9)) aNil))) (aCons (eCall m_take (aCons (eVar 0) (aCons (eCall gLen (aCons (eVar 1) aNil)) aNil))) aNil))
def bt7l : Fa := aCons (eCall gList (aCons (eVar 1) aNil)) (aCons (eRev (eVar 1)) (aCons (eBin gAdd (eSl gSl (eVar 1) oNone (oSome (eVar 6))) (eSl gSl (eVar 1) (oSome (eBin gAdd (eVar 6) (eC (.int 1)))) oNone)) (aCons (eBin gAdd (eSl gSl (eVar 1) oNone (oSome (eBin gAdd (eVar 6) (eC (.int 1))))) (eSl gSl (eVar 1) (oSome (eVar 6)) oNone)) aNil)))
def bt7 : Fs := sIf (asB (eBin gEqA (eVar 5) (eC (.int 0)))) (sSeq (sAsg (eLst bt7l) (gtName 7))
    (sRet (eCall m_some (aCons (eVar 0) (aCons (eBin gAdd (eVar 7) (eLst (aCons (eBin gAdd (eVar 1) (eTup (aCons (eC .non) aNil))) aNil))) aNil))))) sNil
def bt8 (n : Nat) : Fs := sRet (eBin gAdd (eBin gAdd (eSl gSl (eVar 1) oNone (oSome (eVar 6))) (eTup (aCons (eCall (m_law_bent n) (aCons (eVar 0) (aCons (eBin gIx (eVar 1) (eVar 6)) (aCons (eBin gSub (eVar 2) (eC (.int 1))) aNil)))) aNil))) (eSl gSl (eVar 1) (oSome (eBin gAdd (eVar 6) (eC (.int 1)))) oNone))
theorem bent_is (n : Nat) : m_law_bent (n + 1) = runB 10 (sSeq bt1 (sSeq bt2 (sSeq bt3 (sSeq bt4 (sSeq bt5 (sSeq bt6 (sSeq bt7 (bt8 n)))))))) := rfl
theorem ov_mono {b k B k' B' : Nat} {s : Sto} {v : D} (h : OV b k B s v) (hk : k ≤ k') (hB : B ≤ B') : OV b k' B' s v := h.elim (fun z => .inl (z.mono hk hB)) fun z => .inr (z.mono hk hB)
theorem bent_ok : ∀ (n j : Nat) (d : D) (deep : Int) (st : Sto) (b : Nat), j ≤ 5 → InV j d → 0 ≤ deep → deep < n → Bag st b → Wp (m_law_bent n [.loc b, d, .int deep]) st fun v s => OV b (j + 4) (Bj j) s v ∧ Bag s b ∧ Grow b st s
  | 0, _, _, _, _, _, _, _, h0, h1, _ => by omega
  | n + 1, j, d, deep, st, b, hj, hin, h0, h1, B => by
    rw [bent_is, wp_runB]
    show Wp (sSeq _ _ [some (.loc b), some d, some (.int deep), none, none, none, none, none, none, none]) st _
    have fin : ∀ {f : Fs} {r : DEnv} {s : Sto}, Wp (f r) s (fun o s => ∃ v, o = .rt v ∧ (OV b (j + 4) (Bj j) s v ∧ Bag s b ∧ Grow b st s)) → Wp (f r) s fun o s => match o with
      | .nx _ => (fun (v : D) s => OV b (j + 4) (Bj j) s v ∧ Bag s b ∧ Grow b st s) .non s
      | .rt v => (fun (v : D) s => OV b (j + 4) (Bj j) s v ∧ Bag s b ∧ Grow b st s) v s
      | _ => False := fun h => h.mono fun o s ⟨i, e, z⟩ => by subst e; exact z
    refine fin ?_
    have b4 := bj_ge j
    -- 1
    refine wp_seqE (Fin := fun v s => OV b (j + 4) (Bj j) s v ∧ Bag s b ∧ Grow b st s) (fun r s => r = [some (.loc b), some d, some (.int deep), none, none, none, none, none, none, none] ∧ 0 < deep ∧ Bag s b ∧ Grow b st s) ?_ ?_
    · unfold bt1
      rw [wp_sIf, wp_orF]
      simp only [wp_asB, wp_bin, wp_var, wp_c, List.getElem?_cons_zero, List.getElem?_cons_succ, Option.some.injEq, exists_eq_left', wp_eqI, D.bl.injEq]
      have odd : ∀ {s : Sto}, Bag s b → Grow b st s → Wp (sRet (eCall m_odd (aCons (eVar 0) aNil)) [some (.loc b), some d, some (.int deep), none, none, none, none, none, none, none]) s fun o s => (∃ v, o = .rt v ∧ (OV b (j + 4) (Bj j) s v ∧ Bag s b ∧ Grow b st s)) ∨ (∃ r1, o = .nx r1 ∧ r1 = [some (.loc b), some d, some (.int deep), none, none, none, none, none, none, none] ∧ 0 < deep ∧ Bag s b ∧ Grow b st s) := fun B' G' => by
        rw [wp_sRet, wp_call]
        simp only [wp_cons, wp_nil, wp_var, List.getElem?_cons_zero, Option.some.injEq, exists_eq_left']
        exact (odd_ok B').mono fun v s2 ⟨p, B2, G2⟩ => .inl ⟨v, rfl, ov_mono p (by omega) (by omega), B2, G'.trans G2⟩
      by_cases hd : deep = 0
      · rw [if_pos (decide_eq_true hd)]
        simp only [if_true]
        exact odd B .refl
      · rw [if_neg (by simpa using hd)]
        simp only [wp_asB, wp_bin, wp_call, wp_cons, wp_nil, wp_var, wp_c, List.getElem?_cons_zero, Option.some.injEq, exists_eq_left']
        refine (take_ok B (many := 9) (by omega) (by omega)).mono fun x s ⟨i, e, _, _, B1, G1⟩ => ?_
        subst e
        rw [wp_eqI]
        refine ⟨_, rfl, ?_⟩
        split
        · exact odd B1 G1
        · rw [wp_sNil]
          exact .inr ⟨_, rfl, rfl, by omega, B1, G1⟩
    rintro r s ⟨rfl, hpos, B1, G1⟩
    have ty : ∃ t, tyName s d = some t ∧ isK t "dict" = false := by
      rcases in_kind hin with ⟨x, e, _⟩ | ⟨i, e, _⟩ | ⟨i, xs, _, e, _⟩ <;> subst e <;> exact ⟨_, rfl, rfl⟩
    obtain ⟨t, ht, htd⟩ := ty
    -- 2
    refine wp_seqE (Fin := fun v s => OV b (j + 4) (Bj j) s v ∧ Bag s b ∧ Grow b st s) (fun r' s' => r' = [some (.loc b), some d, some (.int deep), none, none, none, none, none, none, none] ∧ s' = s ∧ ∀ i, d ≠ .int i) ?_ ?_
    · unfold bt2
      rw [wp_sIf, wp_asB, wp_call]
      simp only [wp_cons, wp_nil, wp_var, List.getElem?_cons_zero, List.getElem?_cons_succ, Option.some.injEq, exists_eq_left', wp_run (int_ok ht), D.bl.injEq]
      rcases in_kind hin with ⟨x, e, hx⟩ | ⟨i, e, hi0, hi3⟩ | ⟨i, xs, e1, e2, hl, hxs⟩
      · subst e
        cases ht
        rw [show (isK "str" "int" && !isK "str" "bool") = false from rfl]
        simp only [Bool.false_eq_true, if_false, wp_sNil]
        exact .inr ⟨_, rfl, rfl, trivial, fun i e => by cases e⟩
      · subst e
        cases ht
        rw [show (isK "int" "int" && !isK "int" "bool") = true from rfl]
        simp only [if_true]
        have go : Ga b s (OV b (j + 4) (Bj j)) [some (.loc b), some (.int i), some (.int deep), none, none, none, none, none, none, none] bt2l 7 := by
          have c : ∀ {f : Fx} {v : D}, (∀ s, f [some (.loc b), some (.int i), some (.int deep), none, none, none, none, none, none, none] s = some (v, s)) → (∀ s, OV b (j + 4) (Bj j) s v) → Ge b s (OV b (j + 4) (Bj j)) [some (.loc b), some (.int i), some (.int deep), none, none, none, none, none, none, none] f := fun h hn => ge_run h fun s _ => hn s
          have oi : ∀ {k : Int}, intOk k = true → ∀ s, OV b (j + 4) (Bj j) s (.int k) := fun h s => .inl (pv_int h (by omega))
          have os : ∀ {x : Str}, niceS x = true → ∀ s, OV b (j + 4) (Bj j) s (.str x) := fun h s => .inl (nice_pv h b4)
          rcases i3 hi0 hi3 with e | e | e | e <;> subst e <;> unfold bt2l <;>
          exact ga_cons ov_keeps (c (fun s => rfl) (oi (by decide +kernel))) (ga_cons ov_keeps (c (fun s => rfl) (oi (by decide +kernel))) (ga_cons ov_keeps (c (fun s => rfl) (oi (by decide +kernel))) (ga_cons ov_keeps (c (fun s => rfl) (oi (by decide +kernel)))
            (ga_cons ov_keeps (c (fun s => rfl) fun s => .inl (pv_bl (by omega))) (ga_cons ov_keeps (c (fun s => rfl) fun s => .inl (pv_non (by omega))) (ga_cons ov_keeps (c (fun s => rfl) (os (by decide +kernel))) ga_nil))))))
        rw [wp_sRet]
        refine (ge_some (i := 0) ov_keeps rfl (ge_list ov_keeps go (by omega)) (by omega) (by omega) s .refl B1).mono fun v s2 ⟨p2, B2, G2⟩ => .inl ⟨v, rfl, p2, B2, G1.trans G2⟩
      · subst e2
        cases ht
        rw [show (isK "tuple" "int" && !isK "tuple" "bool") = false from rfl]
        simp only [Bool.false_eq_true, if_false, wp_sNil]
        exact .inr ⟨_, rfl, rfl, trivial, fun i e => by cases e⟩
    rintro r s' ⟨rfl, rfl, noI⟩
    -- 3
    refine wp_seqN (fun r' s'' => r' = [some (.loc b), some d, some (.int deep), none, none, none, none, none, none, none] ∧ s'' = s') ?_ ?_
    · unfold bt3
      rw [wp_sIf, wp_andF, wp_asB, wp_call]
      simp only [wp_cons, wp_nil, wp_var, wp_c, List.getElem?_cons_zero, List.getElem?_cons_succ, Option.some.injEq, exists_eq_left', wp_isiV ht (show "dict" ∈ ["int", "bool", "str", "tuple", "list", "dict"] by decide), D.bl.injEq, htd, Bool.false_eq_true, if_false, wp_sNil]
      exact ⟨_, rfl, rfl, trivial⟩
    rintro r s ⟨rfl, rfl⟩
    -- 4
    refine wp_seqE (Fin := fun v s => OV b (j + 4) (Bj j) s v ∧ Bag s b ∧ Grow b st s) (fun r' s'' => r' = [some (.loc b), some d, some (.int deep), none, none, none, none, none, none, none] ∧ s'' = s ∧ ∃ i xs, j = i + 1 ∧ d = .tup xs ∧ xs.length ≤ 9 ∧ ∀ x, x ∈ xs → InV i x) ?_ ?_
    · unfold bt4
      rw [wp_sIf, wp_asB, wp_call]
      simp only [wp_cons, wp_nil, wp_var, wp_c, List.getElem?_cons_zero, List.getElem?_cons_succ, Option.some.injEq, exists_eq_left', wp_isiV ht (show "str" ∈ ["int", "bool", "str", "tuple", "list", "dict"] by decide), D.bl.injEq, ty_str ht]
      rcases in_kind hin with ⟨x, e, hx⟩ | ⟨i, e, _⟩ | ⟨i, xs, e1, e2, hl, hxs⟩
      · subst e
        simp only [if_true]
        have chk := tx_chk x hx
        simp only [Bool.and_eq_true, decide_eq_true_eq] at chk
        obtain ⟨⟨⟨⟨⟨⟨⟨c1, c2⟩, c3⟩, c4⟩, c5⟩, c6⟩, c7⟩, c8⟩ := chk
        have hx1 : x.length ≤ sizeLine := small_str (by omega)
        have la : ∀ y : Str, y.length ≤ 10 → x.length + y.length ≤ sizeLine := fun y hy => Nat.le_trans (by omega) (by decide : 23 ≤ sizeLine)
        have c : ∀ {f : Fx} {y : Str}, (∀ s, f [some (.loc b), some (.str x), some (.int deep), none, none, none, none, none, none, none] s = some (.str y, s)) → niceS y = true → Ge b s (OV b (j + 4) (Bj j)) [some (.loc b), some (.str x), some (.int deep), none, none, none, none, none, none, none] f := fun h hn => ge_run h fun _ _ => .inl (nice_pv hn b4)
        have go : Ga b s (OV b (j + 4) (Bj j)) [some (.loc b), some (.str x), some (.int deep), none, none, none, none, none, none, none] bt4l 9 := by
          unfold bt4l
          refine ga_cons ov_keeps (c (fun s => wp_app (Q := fun _ _ => True) ?_) c1) (ga_cons ov_keeps (c (fun s => wp_app (Q := fun _ _ => True) ?_) c2) (ga_cons ov_keeps (c (fun s => wp_app (Q := fun _ _ => True) ?_) c3) (ga_cons ov_keeps (c (fun s => wp_app (Q := fun _ _ => True) ?_) c4)
            (ga_cons ov_keeps (c (fun s => rfl) (by decide +kernel)) (ga_cons ov_keeps (c (fun s => wp_app (Q := fun _ _ => True) ?_) c5) (ga_cons ov_keeps (c (fun s => rfl) (by decide +kernel)) (ga_cons ov_keeps (c (fun s => wp_app (Q := fun _ _ => True) ?_) c6) (ga_cons ov_keeps (c (fun s => rfl) (by decide +kernel)) ga_nil))))))))
          · simp only [wp_bin, wp_var, wp_c, List.getElem?_cons_zero, List.getElem?_cons_succ, Option.some.injEq, exists_eq_left', wp_addS (la (("a" : String) : Str) (by decide +kernel)), and_self]
          · simp only [wp_sl, wp_oSome, wp_oNone, wp_var, wp_c, List.getElem?_cons_zero, List.getElem?_cons_succ, Option.some.injEq, exists_eq_left', D.int.injEq, wp_slS hx1, and_self]
          · simp only [wp_bin, wp_var, wp_c, List.getElem?_cons_zero, List.getElem?_cons_succ, Option.some.injEq, exists_eq_left', wp_addS (la (("1" : String) : Str) (by decide +kernel)), and_self]
          · simp only [wp_meth, wp_nil, wp_var, List.getElem?_cons_zero, List.getElem?_cons_succ, Option.some.injEq, exists_eq_left']
            rw [wp_run (show gUpper (.str x) [] s = some (.str (Txt.upper x), s) by simp only [gUpper]; rw [if_pos (by omega)])]
            exact ⟨rfl, rfl⟩
          · simp only [wp_bin, wp_var, wp_c, List.getElem?_cons_zero, List.getElem?_cons_succ, Option.some.injEq, exists_eq_left', wp_mulS (a := x) (n := 12) (show 2 ≤ (12 : Int) ∧ (12 : Int) ≤ 1000 ∧ x.length ≤ 1000 from ⟨by omega, by omega, by omega⟩)]
            exact ⟨rfl, trivial⟩
          · simp only [wp_bin, wp_var, wp_c, List.getElem?_cons_zero, List.getElem?_cons_succ, Option.some.injEq, exists_eq_left', wp_addS (la (("\n" : String) : Str) (by decide +kernel)), and_self]
        rw [wp_sRet]
        refine (ge_some (i := 0) ov_keeps rfl (ge_list ov_keeps go (by omega)) (by omega) (by omega) s .refl B1).mono fun v s2 ⟨p2, B2, G2⟩ => .inl ⟨v, rfl, p2, B2, G1.trans G2⟩
      · exact absurd e (noI i)
      · subst e2
        simp only [Bool.false_eq_true, if_false, wp_sNil]
        exact .inr ⟨_, rfl, rfl, trivial, i, xs, e1, rfl, hl, hxs⟩
    rintro r s' ⟨rfl, rfl, i, xs, rfl, rfl, hl, hxs⟩
    have pin := in_pv (st := s') (b := b) (i + 1) (.tup xs) ⟨hl, hxs⟩
    -- 5
    refine wp_seqE (Fin := fun v s => OV b (i + 1 + 4) (Bj (i + 1)) s v ∧ Bag s b ∧ Grow b st s) (fun r' s'' => r' = [some (.loc b), some (.tup xs), some (.int deep), none, none, none, none, none, none, none] ∧ s'' = s' ∧ xs ≠ []) ?_ ?_
    · unfold bt5
      rw [wp_sIf, wp_orF]
      simp only [wp_not, wp_asB, wp_call, wp_cons, wp_nil, wp_var, wp_c, List.getElem?_cons_zero, List.getElem?_cons_succ, Option.some.injEq, exists_eq_left', wp_isiV ht (show "tuple" ∈ ["int", "bool", "str", "tuple", "list", "dict"] by decide), D.bl.injEq, ty_tup ht, Bool.not_true, Bool.false_eq_true, if_false, wp_bin, wp_tup, wp_eqT0 pin.1 (by omega)]
      refine ⟨Nat.zero_le _, ?_⟩
      cases xs with
      | nil =>
        simp only [List.isEmpty_nil, if_true]
        rw [wp_sRet, wp_call]
        simp only [wp_cons, wp_nil, wp_var, List.getElem?_cons_zero, Option.some.injEq, exists_eq_left']
        exact (odd_ok B1).mono fun v s2 ⟨p, B2, G2⟩ => .inl ⟨v, rfl, ov_mono p (by omega) (by have := bj_ge (i + 1); omega), B2, G1.trans G2⟩
      | cons x xs =>
        simp only [List.isEmpty_cons, Bool.false_eq_true, if_false, wp_sNil]
        exact .inr ⟨_, rfl, rfl, trivial, by simp⟩
    rintro r s ⟨rfl, rfl, hne⟩
    have hpl : 0 < xs.length := List.length_pos_iff.mpr hne
    -- 6
    refine wp_seqN (fun r' s' => ∃ way at_ : Int, r' = [some (.loc b), some (.tup xs), some (.int deep), none, none, some (.int way), some (.int at_), none, none, none] ∧ 0 ≤ at_ ∧ at_ < xs.length ∧ Bag s' b ∧ Grow b st s') ?_ ?_
    · unfold bt6
      rw [wp_sPar]
      simp only [wp_cons, wp_nil, wp_call, wp_var, wp_c, List.getElem?_cons_zero, List.getElem?_cons_succ, Option.some.injEq, exists_eq_left', wp_lenT]
      refine (take_ok B1 (many := 9) (by omega) (by omega)).mono fun x s1 ⟨w, e, _, _, B2, G2⟩ => ?_
      refine (take_ok B2 (many := (xs.length : Int)) (by omega) (by omega)).mono fun y s2 ⟨a, e', a0, a1, B3, G3⟩ => ?_
      subst e e'
      exact ⟨_, _, rfl, _, rfl, w, a, rfl, a0, a1, B3, G1.trans (G2.trans G3)⟩
    rintro r s ⟨way, at_, rfl, a0, a1, B2, G2⟩
    have elem : ∀ (s : Sto) x, x ∈ xs → PV s b i (Bj i) x ∧ XV s b i (Bj i) x := fun s x hx => in_pv i x (hxs x hx)
    have cl : ∀ lo hi, (cutD xs lo hi).length ≤ 9 := fun lo hi => Nat.le_trans cut_len hl
    have s5 : ∀ n m : Nat, n ≤ 9 → m ≤ 9 → n + m ≤ sizeLine := fun n m h h' => Nat.le_trans (by omega) (by decide : 18 ≤ sizeLine)
    have tupP : ∀ (s : Sto) (ys : List D), (∀ y, y ∈ ys → y ∈ xs) → ys.length ≤ 18 → PV s b (i + 1 + 4) (Bj (i + 1)) (.tup ys) := fun s ys hy hlen =>
      (pv_tup (k := i) (n := 19) (C := Bj (i + 1)) (fun y h => (elem s y (hy y h)).1) (by omega) (by simp only [Bj]; omega)).mono (by omega) (Nat.le_refl _)
    -- 7
    refine wp_seqE (Fin := fun v s => OV b (i + 1 + 4) (Bj (i + 1)) s v ∧ Bag s b ∧ Grow b st s) (fun r' s' => r' = [some (.loc b), some (.tup xs), some (.int deep), none, none, some (.int way), some (.int at_), none, none, none] ∧ s' = s) ?_ ?_
    · unfold bt7
      rw [wp_sIf]
      simp only [wp_asB, wp_bin, wp_var, wp_c, List.getElem?_cons_zero, List.getElem?_cons_succ, Option.some.injEq, exists_eq_left', wp_eqI, D.bl.injEq]
      split
      · have go : Ga b s (OV b (i + 1 + 4) (Bj (i + 1))) [some (.loc b), some (.tup xs), some (.int deep), none, none, some (.int way), some (.int at_), none, none, none] bt7l 4 := by
          unfold bt7l
          refine ga_cons ov_keeps ?_ (ga_cons ov_keeps (ge_run (v := .tup xs.reverse) (fun s => ?_) fun s _ => .inl (tupP s _ (fun y h => List.mem_reverse.mp h) (by rw [List.length_reverse]; omega)))
            (ga_cons ov_keeps (ge_run (v := .tup (cutD xs none (some at_) ++ cutD xs (some (at_ + 1)) none)) (fun s => wp_app (Q := fun _ _ => True) ?_) fun s _ => .inl (tupP s _ (fun y h => (List.mem_append.mp h).elim mem_cut mem_cut) (by rw [List.length_append]; have := cl none (some at_); have := cl (some (at_ + 1)) none; omega)))
            (ga_cons ov_keeps (ge_run (v := .tup (cutD xs none (some (at_ + 1)) ++ cutD xs (some at_) none)) (fun s => wp_app (Q := fun _ _ => True) ?_) fun s _ => .inl (tupP s _ (fun y h => (List.mem_append.mp h).elim mem_cut mem_cut) (by rw [List.length_append]; have := cl none (some (at_ + 1)); have := cl (some at_) none; omega))) ga_nil)))
          · intro s1 G3 B3
            rw [wp_call]
            simp only [wp_cons, wp_nil, wp_var, List.getElem?_cons_zero, List.getElem?_cons_succ, Option.some.injEq, exists_eq_left']
            rw [wp_run (show gList [.tup xs] s1 = some (.loc s1.length, s1 ++ [.lst xs]) from rfl)]
            have := B3.lt
            exact ⟨.inl ((pv_lst (k := i) (n := 9) (C := Bj (i + 1)) get_end (by omega) (fun x hx => (elem _ x hx).1) hl (by simp only [Bj]; omega)).mono (by omega) (Nat.le_refl _)), B3.app, .app⟩
          · rfl
          · simp only [wp_bin, wp_sl, wp_oSome, wp_oNone, wp_var, wp_c, List.getElem?_cons_zero, List.getElem?_cons_succ, Option.some.injEq, exists_eq_left', D.int.injEq, wp_slT, wp_addI, wp_addT (s5 _ _ (cl _ _) (cl _ _)), and_self]
          · simp only [wp_bin, wp_sl, wp_oSome, wp_oNone, wp_var, wp_c, List.getElem?_cons_zero, List.getElem?_cons_succ, Option.some.injEq, exists_eq_left', D.int.injEq, wp_slT, wp_addI, wp_addT (s5 _ _ (cl _ _) (cl _ _)), and_self]
        rw [wp_seq, wp_sAsg]
        refine (ge_list ov_keeps go (by omega) s .refl B2).mono fun v s1 ⟨⟨l, ds, e, nb, hlc, p, len⟩, B3, G3⟩ => ?_
        subst e
        rw [wp_gtName]
        show Wp (sRet _ [some (.loc b), some (.tup xs), some (.int deep), none, none, some (.int way), some (.int at_), some (.loc l), none, none]) s1 _
        rw [wp_sRet]
        have h1 : Ge b s1 (fun s v => ∃ l ds, v = .loc l ∧ l ≠ b ∧ s[l]? = some (.lst ds) ∧ (∀ d, d ∈ ds → OV b (i + 1 + 4) (Bj (i + 1)) s d) ∧ ds.length = 4) [some (.loc b), some (.tup xs), some (.int deep), none, none, some (.int way), some (.int at_), some (.loc l), none, none] (eVar 7) := ge_run (fun _ => rfl) fun s' G => ⟨l, ds, rfl, nb, G.get nb hlc, fun d hd => ov_keeps _ _ _ G (p d hd), len⟩
        have h2 : Ga b s1 (OV b (i + 1 + 4) (Bj (i + 1))) [some (.loc b), some (.tup xs), some (.int deep), none, none, some (.int way), some (.int at_), some (.loc l), none, none] (aCons (eBin gAdd (eVar 1) (eTup (aCons (eC .non) aNil))) aNil) 1 := by
          refine ga_cons ov_keeps (ge_run (v := .tup (xs ++ [.non])) (fun s => wp_app (Q := fun _ _ => True) ?_) fun s _ => .inl ?_) ga_nil
          · simp only [wp_bin, wp_tup, wp_cons, wp_nil, wp_var, wp_c, List.getElem?_cons_zero, List.getElem?_cons_succ, Option.some.injEq, exists_eq_left', wp_addT (a := xs) (b := [.non]) (s5 _ _ hl (by simp)), and_true]
            show 1 ≤ sizeLine
            decide
          · refine (pv_tup (k := i) (B := Bj i) (n := 19) (C := Bj (i + 1)) (fun y h => ?_) (by rw [List.length_append]; simp; omega) (by simp only [Bj]; omega)).mono (by omega) (Nat.le_refl _)
            rcases List.mem_append.mp h with q | q
            · exact (elem s y q).1
            · rw [List.mem_singleton.mp q]; exact pv_non (by have := bj_ge i; omega)
        refine (ge_some (i := 0) ov_keeps rfl (some_add ov_keeps h1 (ge_list ov_keeps h2 (by omega)) (by omega)) (by omega) (by omega) s1 .refl B3).mono fun v s2 ⟨p2, B4, G4⟩ => .inl ⟨v, rfl, p2, B4, G2.trans (G3.trans G4)⟩
      · rw [wp_sNil]
        exact .inr ⟨_, rfl, rfl, rfl⟩
    rintro r s' ⟨rfl, rfl⟩
    -- 8
    unfold bt8
    obtain ⟨x, hx, hxm⟩ := atI_in a0 a1
    rw [wp_sRet, wp_bin, wp_bin]
    simp only [wp_sl, wp_oSome, wp_oNone, wp_tup, wp_cons, wp_nil, wp_call, wp_bin, wp_var, wp_c, List.getElem?_cons_zero, List.getElem?_cons_succ, Option.some.injEq, exists_eq_left', D.int.injEq, wp_slT, wp_ixT hx, wp_subI]
    refine (bent_ok n i x (deep - 1) s' b (by omega) (hxs x hxm) (by omega) (by omega) B2).mono fun v s1 ⟨p, B3, G3⟩ => ?_
    refine ⟨by show 1 ≤ sizeLine; decide, ?_⟩
    have c1 := cl none (some at_)
    have c2 := cl (some (at_ + 1)) none
    rw [wp_addT (a := cutD xs none (some at_)) (b := [v]) (s5 _ _ c1 (by simp))]
    simp only [wp_addI, D.int.injEq, exists_eq_left']
    rw [wp_addT (a := cutD xs none (some at_) ++ [v]) (Nat.le_trans (by rw [List.length_append]; simp; omega) (by decide : 19 ≤ sizeLine))]
    refine ⟨_, rfl, ?_, B3, G2.trans G3⟩
    have hlen : (cutD xs none (some at_) ++ [v] ++ cutD xs (some (at_ + 1)) none).length ≤ 19 := by rw [List.length_append, List.length_append]; simp; omega
    rcases p with p | p
    · refine .inl (pv_tup (k := i + 4) (B := Bj i) (n := 19) (fun y h => ?_) hlen (by simp only [Bj]; omega))
      rcases List.mem_append.mp h with q | q
      · rcases List.mem_append.mp q with q | q
        · exact (elem _ y (mem_cut q)).1.mono (by omega) (Nat.le_refl _)
        · rw [List.mem_singleton.mp q]; exact p
      · exact (elem _ y (mem_cut q)).1.mono (by omega) (Nat.le_refl _)
    · refine .inr (xv_tup (k := i + 4) (B := Bj i) (n := 19) (fun y h => ?_) hlen (by simp only [Bj]; omega))
      rcases List.mem_append.mp h with q | q
      · rcases List.mem_append.mp q with q | q
        · exact (elem _ y (mem_cut q)).2.mono (by omega) (Nat.le_refl _)
        · rw [List.mem_singleton.mp q]; exact p
      · exact (elem _ y (mem_cut q)).2.mono (by omega) (Nat.le_refl _)
end Fe.k28
namespace Fe.k28
open PySem PySem.Spec PyProof.Rows L2 Fe
/-! ## what is a BOOK -/
abbrev Menu := Option (List Str)
def menuD : Menu → D
  | none => .non
  | some ws => .tup (ws.map .str)
def itemB : D → Menu → Bool
  | .int i, none => decide (0 ≤ i)
  | .str y, some ws => decide (y ∈ ws)
  | _, _ => false
def MEN : List Menu := [some ["fresh", "kept"], none, none, none, none, some ["always", "never", "own"], some ["any", "live"], some ["ahead", "behind"], some ["address", "index"]]
def bookB : D → Bool
  | .tup xs => decide (xs.length = 9) && (xs.zip MEN).all fun p => itemB p.1 p.2
  | .ptp xs => decide (xs.length = 9) && (xs.zip MEN).all fun p => itemB p.1 p.2
  | _ => false
theorem strs_map : ∀ l : List Str, strsOf (l.map D.str) = some l
  | [] => rfl
  | x :: l => by simp only [List.map_cons, strsOf, strs_map l, Option.map_some]
theorem wp_inS {neg : Bool} {d : D} {nms : List Str} {t : String} {st : Sto} {Q} (h : tyName st d = some t) : Wp (gInA neg d (.tup (nms.map .str))) st Q ↔ Q (.bl (neg != nms.any fun z => eqSD z d)) st := by
  refine wp_run ?_
  unfold gInA or2 gIn
  simp only [seqOf, Option.bind_some, strs_map, h]
theorem wp_isN {neg : Bool} {d : D} {st : Sto} {m : Menu} {Q} (h : d = menuD m) : Wp (gIsN neg d .non) st Q ↔ Q (.bl (neg != decide (m = none))) st := by
  subst h
  cases m with
  | none => cases neg <;> exact wp_run rfl
  | some ws => cases neg <;> exact wp_run rfl
theorem any_in {ws : List Str} {y : Str} : (ws.any fun z => eqSD z (.str y)) = decide (y ∈ ws) := by
  induction ws with
  | nil => rfl
  | cons w ws ih =>
    rw [List.any_cons, ih]
    simp only [eqSD, List.mem_cons]
    by_cases e : y = w
    · subst e; simp
    · have e' : w ≠ y := fun z => e z.symm
      simp [e, e']
def pd (p : D × Menu) : D := .tup [p.1, menuD p.2]
theorem item_ok {th mn a2 a3 : Option D} {s : Sto} {x : D} {m : Menu} {t : String} (ht : tyName s x = some t) :
    Wp (b_law_is_book1 [th, mn, some x, some (menuD m)]) s fun o s' => s' = s ∧ o = (if itemB x m = true then .nx [th, mn, some x, some (menuD m)] else .rt (.bl false)) := by
  unfold b_law_is_book1
  rw [wp_seq, wp_sIf, wp_andF, wp_asB, wp_bin]
  simp only [wp_var, wp_c, List.getElem?_cons_zero, List.getElem?_cons_succ, Option.some.injEq, exists_eq_left', wp_isN rfl, D.bl.injEq, Bool.false_bne]
  cases m with
  | none =>
    simp only [decide_true, if_true]
    rw [wp_orF]
    simp only [wp_not, wp_asB, wp_call, wp_cons, wp_nil, wp_var, wp_c, List.getElem?_cons_zero, List.getElem?_cons_succ, Option.some.injEq, exists_eq_left', wp_run (int_ok ht), D.bl.injEq]
    have isint : (isK t "int" && !isK t "bool") = (match x with | .int _ => true | _ => false) := by
      cases x with
      | loc l => simp only [tyName] at ht; split at ht <;> cases ht <;> rfl
      | _ => cases ht <;> rfl
    rw [isint]
    cases x with
    | int i =>
      simp only [Bool.not_true, Bool.false_eq_true, if_false, wp_bin, wp_var, wp_c, List.getElem?_cons_zero, List.getElem?_cons_succ, Option.some.injEq, exists_eq_left', wp_ltI, D.bl.injEq]
      by_cases h : 0 ≤ i
      · rw [if_neg (by simp; omega), wp_sNil]
        simp only []
        rw [wp_sIf, wp_andF, wp_asB, wp_bin]
        simp only [wp_var, wp_c, List.getElem?_cons_zero, List.getElem?_cons_succ, Option.some.injEq, exists_eq_left', wp_isN rfl, D.bl.injEq, decide_true, Bool.bne_true, Bool.not_true, Bool.false_eq_true, if_false, wp_sNil, itemB, decide_eq_true h, if_true, and_self]
      · rw [if_pos (by simp; omega), wp_sRet, wp_c]
        simp only [itemB, decide_eq_false h, Bool.false_eq_true, if_false, and_self]
    | _ =>
      simp only [Bool.not_false, if_true, wp_sRet, wp_c, itemB, Bool.false_eq_true, if_false, and_self]
  | some ws =>
    simp only [reduceCtorEq, decide_false, Bool.false_eq_true, if_false, wp_sNil]
    rw [wp_sIf, wp_andF, wp_asB, wp_bin]
    simp only [wp_var, wp_c, List.getElem?_cons_zero, List.getElem?_cons_succ, Option.some.injEq, exists_eq_left', wp_isN rfl, D.bl.injEq, reduceCtorEq, decide_false, Bool.true_bne, Bool.not_false, if_true]
    rw [wp_orF]
    simp only [wp_not, wp_asB, wp_call, wp_cons, wp_nil, wp_var, wp_c, wp_bin, List.getElem?_cons_zero, List.getElem?_cons_succ, Option.some.injEq, exists_eq_left', wp_isiV ht (show "str" ∈ ["int", "bool", "str", "tuple", "list", "dict"] by decide), ty_str ht, D.bl.injEq, menuD, wp_inS ht, Bool.true_bne]
    cases x with
    | str y =>
      simp only [Bool.not_true, Bool.false_eq_true, if_false, any_in, itemB]
      by_cases h : y ∈ ws
      · simp only [decide_eq_true h, Bool.not_true, Bool.false_eq_true, if_false, if_true, wp_sNil, and_self]
      · simp only [decide_eq_false h, Bool.not_false, Bool.false_eq_true, if_false, if_true, wp_sRet, wp_c, and_self]
    | _ =>
      simp only [Bool.not_false, if_true, wp_sRet, wp_c, itemB, Bool.false_eq_true, if_false, and_self]
theorem loopB {th mn : Option D} {ok : Sto → Bool} {s : Sto} (hok : ok s = true) : ∀ (ps : List (D × Menu)) (a2 a3 : Option D), (∀ p, p ∈ ps → ∃ t, tyName s p.1 = some t) →
    Wp (forF (gtTup 2 (gsCons (gtName 2) (gsCons (gtName 3) gsNil))) b_law_is_book1 ok (ps.map pd) [th, mn, a2, a3]) s fun o s' => s' = s ∧ ((ps.all (fun p => itemB p.1 p.2) = true ∧ ∃ a2 a3, o = .nx [th, mn, a2, a3]) ∨ (ps.all (fun p => itemB p.1 p.2) = false ∧ o = .rt (.bl false)))
  | [], a2, a3, _ => by
    rw [List.map_nil, wp_run (show forF (gtTup 2 (gsCons (gtName 2) (gsCons (gtName 3) gsNil))) b_law_is_book1 ok [] [th, mn, a2, a3] s = some (.nx [th, mn, a2, a3], s) by rw [forF_nil, if_pos hok])]
    exact ⟨rfl, .inl ⟨rfl, _, _, rfl⟩⟩
  | (x, m) :: ps, a2, a3, h => by
    obtain ⟨t, ht⟩ := h (x, m) (by simp)
    have run : forF (gtTup 2 (gsCons (gtName 2) (gsCons (gtName 3) gsNil))) b_law_is_book1 ok (((x, m) :: ps).map pd) [th, mn, a2, a3] s = bnd (b_law_is_book1 [th, mn, some x, some (menuD m)]) (fun o => match o with
      | .nx r2 => forF (gtTup 2 (gsCons (gtName 2) (gsCons (gtName 3) gsNil))) b_law_is_book1 ok (ps.map pd) r2
      | .ct r2 => forF (gtTup 2 (gsCons (gtName 2) (gsCons (gtName 3) gsNil))) b_law_is_book1 ok (ps.map pd) r2
      | .bk r2 => ret (.nx r2)
      | .rt x => ret (.rt x)) s := by
      rw [List.map_cons, forF_cons, if_pos hok]
      rfl
    have w : Wp (bnd (b_law_is_book1 [th, mn, some x, some (menuD m)]) (fun o => match o with
      | .nx r2 => forF (gtTup 2 (gsCons (gtName 2) (gsCons (gtName 3) gsNil))) b_law_is_book1 ok (ps.map pd) r2
      | .ct r2 => forF (gtTup 2 (gsCons (gtName 2) (gsCons (gtName 3) gsNil))) b_law_is_book1 ok (ps.map pd) r2
      | .bk r2 => ret (.nx r2)
      | .rt x => ret (.rt x))) s fun o s' => s' = s ∧ ((((x, m) :: ps).all (fun p => itemB p.1 p.2) = true ∧ ∃ a2 a3, o = .nx [th, mn, a2, a3]) ∨ (((x, m) :: ps).all (fun p => itemB p.1 p.2) = false ∧ o = .rt (.bl false))) := by
      rw [wp_bnd]
      refine (item_ok (th := th) (mn := mn) (a2 := a2) (a3 := a3) (m := m) ht).mono fun o s' ⟨e, eo⟩ => ?_
      subst e eo
      cases hb : itemB x m with
      | true =>
        simp only [if_true]
        refine (loopB hok ps _ _ fun p hp => h p (by simp [hp])).mono fun o s2 z => ?_
        simpa only [List.all_cons, hb, Bool.true_and] using z
      | false =>
        simp only [Bool.false_eq_true, if_false, wp_ret]
        exact ⟨trivial, .inr ⟨by simp only [List.all_cons, hb, Bool.false_and], trivial⟩⟩
    unfold Wp at w ⊢
    rw [run]
    exact w
theorem run_zipM {f : Fa} {r : DEnv} {s s1 : Sto} {x y : D} {k1 k2 : Bool} {xs ys : List D} {ok1 ok2 : Sto → Bool} (hf : f r s = some ([x, y], s1)) (hx : seqB s1 x = some (k1, xs, ok1)) (hy : seqB s1 y = some (k2, ys, ok2)) :
    iZipM f r s = some ((pairs xs ys, fun s => ok1 s && ok2 s), s1) := by
  unfold iZipM bnd
  simp only [hf, hx, hy]
theorem pairs_pd : ∀ (xs : List D) (ms : List Menu), pairs xs (ms.map menuD) = (xs.zip ms).map pd
  | [], _ => by simp [pairs]
  | _ :: _, [] => by simp [pairs]
  | x :: xs, m :: ms => by
    have := pairs_pd xs ms
    unfold pairs at this ⊢
    simp only [List.map_cons, List.zip_cons_cons]
    rw [this]
    rfl
theorem lbook_ok {st : Sto} {d : D} {t : String} (h : tyName st d = some t) (hx : ∀ xs, d = .tup xs ∨ d = .ptp xs → ∀ x, x ∈ xs → ∃ t, tyName st x = some t) : Wp (m_law_is_book [d]) st fun v s => v = .bl (bookB d) ∧ Ext st s := by
  unfold m_law_is_book
  rw [wp_runB]
  show Wp (sSeq _ _ [some d, none, none, none]) st _
  rw [wp_seq, wp_sAsg]
  simp only [wp_lst, wp_cons, wp_nil, wp_tup, wp_c]
  refine ⟨by show 2 ≤ sizeLine; decide, by show 3 ≤ sizeLine; decide, by show 2 ≤ sizeLine; decide, by show 2 ≤ sizeLine; decide, by show 2 ≤ sizeLine; decide, by show 9 ≤ sizeLine; decide, ?_⟩
  rw [wp_gtName]
  show Wp (sSeq _ _ [some d, some (.loc st.length), none, none]) (st ++ [.lst (MEN.map menuD)]) _
  have hE : Ext st (st ++ [.lst (MEN.map menuD)]) := Ext.refl.app
  have h' := ty_ext hE h
  rw [wp_seq, wp_sIf, wp_orF]
  simp only [wp_not, wp_asB, wp_call, wp_cons, wp_nil, wp_var, wp_c, List.getElem?_cons_zero, List.getElem?_cons_succ, Option.some.injEq, exists_eq_left', wp_isiV h' (show "tuple" ∈ ["int", "bool", "str", "tuple", "list", "dict"] by decide), D.bl.injEq, ty_tup h']
  cases d with
  | ptp xs =>
    simp only [Bool.not_true, Bool.false_eq_true, if_false, wp_bin, wp_call, wp_cons, wp_nil, wp_var, wp_c, List.getElem?_cons_zero, List.getElem?_cons_succ, Option.some.injEq, exists_eq_left', wp_lenQ (show seqOf (st ++ [Cell.lst (MEN.map menuD)]) (D.ptp xs) = some xs from rfl)]
    rw [wp_run (show gNeA (.int xs.length) (.int 9) (st ++ [.lst (MEN.map menuD)]) = some (.bl (!decide ((xs.length : Int) = 9)), _) from rfl)]
    simp only [D.bl.injEq, exists_eq_left']
    by_cases h9 : xs.length = 9
    · rw [if_neg (by simp; omega), wp_sNil]
      simp only []
      rw [wp_seq, wp_for]
      have run : iZipM (aCons (eVar 0) (aCons (eVar 1) aNil)) [some (.ptp xs), some (.loc st.length), none, none] (st ++ [.lst (MEN.map menuD)]) = some ((pairs xs (MEN.map menuD), fun s => okAll s && okLst st.length (MEN.map menuD) s), st ++ [.lst (MEN.map menuD)]) := by
        exact run_zipM (k1 := true) (k2 := false) (x := .ptp xs) (y := .loc st.length) rfl rfl (by simp only [seqB, get_end])
      rw [wp_run run]
      rw [pairs_pd]
      refine (loopB (th := some (.ptp xs)) (mn := some (.loc st.length)) (ok := fun s => okAll s && okLst st.length (MEN.map menuD) s) (s := st ++ [Cell.lst (MEN.map menuD)]) (by show (true && okLst st.length (MEN.map menuD) (st ++ [Cell.lst (MEN.map menuD)])) = true; rw [Bool.true_and]; unfold okLst; rw [get_end]; exact D.sameL_refl _) (xs.zip MEN) none none fun p hp => ?_).mono fun o s' ⟨e, z⟩ => ?_
      · obtain ⟨t, ht⟩ := hx xs (.inr rfl) p.1 (List.of_mem_zip hp).1
        exact ⟨t, ty_ext hE ht⟩
      · subst e
        rcases z with ⟨ha, a2, a3, e⟩ | ⟨ha, e⟩
        · subst e
          simp only [wp_sRet, wp_c, bookB, decide_eq_true h9, ha, Bool.true_and]
          exact ⟨trivial, hE⟩
        · subst e
          simp only [bookB, decide_eq_true h9, ha, Bool.true_and]
          exact ⟨trivial, hE⟩
    · rw [if_pos (by simp; omega), wp_sRet, wp_c]
      simp only [bookB, decide_eq_false h9, Bool.false_and]
      exact ⟨trivial, hE⟩
  | tup xs =>
    simp only [Bool.not_true, Bool.false_eq_true, if_false, wp_bin, wp_call, wp_cons, wp_nil, wp_var, wp_c, List.getElem?_cons_zero, List.getElem?_cons_succ, Option.some.injEq, exists_eq_left', wp_lenT]
    rw [wp_run (show gNeA (.int xs.length) (.int 9) (st ++ [.lst (MEN.map menuD)]) = some (.bl (!decide ((xs.length : Int) = 9)), _) from rfl)]
    simp only [D.bl.injEq, exists_eq_left']
    by_cases h9 : xs.length = 9
    · rw [if_neg (by simp; omega), wp_sNil]
      simp only []
      rw [wp_seq, wp_for]
      have run : iZipM (aCons (eVar 0) (aCons (eVar 1) aNil)) [some (.tup xs), some (.loc st.length), none, none] (st ++ [.lst (MEN.map menuD)]) = some ((pairs xs (MEN.map menuD), fun s => okAll s && okLst st.length (MEN.map menuD) s), st ++ [.lst (MEN.map menuD)]) := by
        exact run_zipM (k1 := true) (k2 := false) (x := .tup xs) (y := .loc st.length) rfl rfl (by simp only [seqB, get_end])
      rw [wp_run run]
      rw [pairs_pd]
      refine (loopB (th := some (.tup xs)) (mn := some (.loc st.length)) (ok := fun s => okAll s && okLst st.length (MEN.map menuD) s) (s := st ++ [Cell.lst (MEN.map menuD)]) (by show (true && okLst st.length (MEN.map menuD) (st ++ [Cell.lst (MEN.map menuD)])) = true; rw [Bool.true_and]; unfold okLst; rw [get_end]; exact D.sameL_refl _) (xs.zip MEN) none none fun p hp => ?_).mono fun o s' ⟨e, z⟩ => ?_
      · obtain ⟨t, ht⟩ := hx xs (.inl rfl) p.1 (List.of_mem_zip hp).1
        exact ⟨t, ty_ext hE ht⟩
      · subst e
        rcases z with ⟨ha, a2, a3, e⟩ | ⟨ha, e⟩
        · subst e
          simp only [wp_sRet, wp_c, bookB, decide_eq_true h9, ha, Bool.true_and]
          exact ⟨trivial, hE⟩
        · subst e
          simp only [bookB, decide_eq_true h9, ha, Bool.true_and]
          exact ⟨trivial, hE⟩
    · rw [if_pos (by simp; omega), wp_sRet, wp_c]
      simp only [bookB, decide_eq_false h9, Bool.false_and]
      exact ⟨trivial, hE⟩
  | _ =>
    simp only [Bool.not_false, if_true, wp_sRet, wp_c]
    exact ⟨rfl, hE⟩
end Fe.k28
namespace Fe.k28
open PySem PySem.Spec PyProof.Rows L2 Fe
/-! ## the sentences of a safe BOOK -/
def safeB (way : Str) (up more down home : Int) (strike find drain hold : Str) : Bool :=
  if home ≠ 1 ∨ up ≠ down ∨ up < 1 then false
  else if way = "fresh" then true
  else if more ≠ 0 ∨ hold ≠ "index" then false
  else if drain = "ahead" then !(decide (strike = "never") && decide (find = "any")) else decide (find = "live") && !decide (strike = "always")
def bk (way : Str) (up more down home : Int) (strike find drain hold : Str) : D := .tup [.str way, .int up, .int more, .int down, .int home, .str strike, .str find, .str drain, .str hold]
def TXok (x : Str) : Prop := PyData.strOk x = true
theorem wp_eqS' {st : Sto} {x y : Str} {Q} (hx : TXok x) (hy : TXok y) : Wp (gEqA (.str x) (.str y)) st Q ↔ Q (.bl (decide (x = y))) st := by
  rw [wp_eqS hx hy]
  have : (x == y) = decide (x = y) := by
    by_cases e : x = y
    · subst e; simp
    · simp [e]
  rw [this]
theorem wp_neS' {st : Sto} {x y : Str} {Q} (hx : TXok x) (hy : TXok y) : Wp (gNeA (.str x) (.str y)) st Q ↔ Q (.bl (!decide (x = y))) st := by
  rw [wp_neS hx hy]
  have : (x == y) = decide (x = y) := by
    by_cases e : x = y
    · subst e; simp
    · simp [e]
  rw [this]
theorem wp_neI {st : Sto} {a b : Int} {Q} : Wp (gNeA (.int a) (.int b)) st Q ↔ Q (.bl (!decide (a = b))) st := wp_run rfl
theorem ok_w : ∀ x, x ∈ (["fresh", "ahead", "never", "any", "live", "always", "index"] : List Str) → PyData.strOk x = true := by decide +kernel
theorem lsafe_ok {st : Sto} {way strike find drain hold : Str} {up more down home : Int} (h1 : TXok way) (h2 : TXok strike) (h3 : TXok find) (h4 : TXok drain) (h5 : TXok hold) :
    Wp (m_law_is_safe [bk way up more down home strike find drain hold]) st fun v s => v = .bl (safeB way up more down home strike find drain hold) ∧ s = st := by
  unfold m_law_is_safe
  rw [wp_runB]
  show Wp (sSeq _ _ [some (bk way up more down home strike find drain hold), none, none, none, none, none, none, none, none, none]) st _
  rw [wp_seq, wp_sAsg]
  simp only [wp_var, List.getElem?_cons_zero, Option.some.injEq, exists_eq_left']
  rw [wp_run (show gtTup 9 (gsCons (gtName 1) (gsCons (gtName 2) (gsCons (gtName 3) (gsCons (gtName 4) (gsCons (gtName 5) (gsCons (gtName 6) (gsCons (gtName 7) (gsCons (gtName 8) (gsCons (gtName 9) gsNil))))))))) (bk way up more down home strike find drain hold) [some (bk way up more down home strike find drain hold), none, none, none, none, none, none, none, none, none] st
    = some ([some (bk way up more down home strike find drain hold), some (.str way), some (.int up), some (.int more), some (.int down), some (.int home), some (.str strike), some (.str find), some (.str drain), some (.str hold)], st) from rfl)]
  have fr := ok_w "fresh" (by simp)
  have ah := ok_w "ahead" (by simp)
  have ne := ok_w "never" (by simp)
  have an := ok_w "any" (by simp)
  have li := ok_w "live" (by simp)
  have al := ok_w "always" (by simp)
  have ix := ok_w "index" (by simp)
  rw [wp_seq, wp_sIf]
  simp only [wp_orF, wp_asB, wp_bin, wp_var, wp_c, List.getElem?_cons_zero, List.getElem?_cons_succ, Option.some.injEq, exists_eq_left', wp_neI, wp_ltI, D.bl.injEq]
  by_cases c1 : home = 1
  · rw [decide_eq_true c1]
    simp only [Bool.not_true, Bool.false_eq_true, if_false]
    by_cases c2 : up = down
    · rw [decide_eq_true c2]
      simp only [Bool.not_true, Bool.false_eq_true, if_false]
      by_cases c3 : up < 1
      · rw [decide_eq_true c3]
        simp only [if_true, wp_sRet, wp_c]
        exact ⟨by unfold safeB; rw [if_pos (.inr (.inr c3))], trivial⟩
      · rw [decide_eq_false c3]
        have e1 : ¬ (home ≠ 1 ∨ up ≠ down ∨ up < 1) := by simp [c1, c2]; rw [← c2]; omega
        simp only [Bool.false_eq_true, if_false, wp_sNil]
        rw [wp_seq, wp_sIf]
        simp only [wp_asB, wp_bin, wp_var, wp_c, List.getElem?_cons_zero, List.getElem?_cons_succ, Option.some.injEq, exists_eq_left', wp_eqS' h1 fr, D.bl.injEq]
        by_cases c4 : way = "fresh"
        · rw [decide_eq_true c4]
          simp only [if_true, wp_sRet, wp_c]
          exact ⟨by unfold safeB; rw [if_neg e1, if_pos c4], trivial⟩
        · rw [decide_eq_false c4]
          simp only [Bool.false_eq_true, if_false, wp_sNil]
          rw [wp_seq, wp_sIf]
          simp only [wp_orF, wp_asB, wp_bin, wp_var, wp_c, List.getElem?_cons_zero, List.getElem?_cons_succ, Option.some.injEq, exists_eq_left', wp_neI, wp_neS' h5 ix, D.bl.injEq]
          by_cases c5 : more ≠ 0 ∨ hold ≠ "index"
          · have q : (if (!decide (more = 0)) = true then true else !decide (hold = "index")) = true := by
              rcases c5 with c | c
              · simp [c]
              · simp [c]
            have fin : safeB way up more down home strike find drain hold = false := by unfold safeB; rw [if_neg e1, if_neg c4, if_pos c5]
            by_cases c6 : more = 0
            · have c7 : hold ≠ "index" := c5.resolve_left (fun z => z c6)
              rw [decide_eq_true c6, decide_eq_false c7]
              simp only [Bool.not_true, Bool.not_false, Bool.false_eq_true, if_false, if_true, wp_sRet, wp_c, fin, and_self]
            · rw [decide_eq_false c6]
              simp only [Bool.not_false, if_true, wp_sRet, wp_c, fin, and_self]
          · have c6 : more = 0 := Classical.byContradiction fun z => c5 (.inl z)
            have c7 : hold = "index" := Classical.byContradiction fun z => c5 (.inr z)
            rw [decide_eq_true c6, decide_eq_true c7]
            simp only [Bool.not_true, Bool.false_eq_true, if_false, wp_sNil]
            rw [wp_sRet, wp_eIf]
            have fin : safeB way up more down home strike find drain hold = if drain = "ahead" then !(decide (strike = "never") && decide (find = "any")) else decide (find = "live") && !decide (strike = "always") := by unfold safeB; rw [if_neg e1, if_neg c4, if_neg c5]
            rw [fin]
            simp only [wp_asB, wp_bin, wp_var, wp_c, List.getElem?_cons_zero, List.getElem?_cons_succ, Option.some.injEq, exists_eq_left', wp_eqS' h4 ah, D.bl.injEq]
            by_cases c8 : drain = "ahead"
            · rw [decide_eq_true c8, if_pos c8]
              simp only [if_true, wp_eNot, wp_and, wp_bin, wp_var, wp_c, List.getElem?_cons_zero, List.getElem?_cons_succ, Option.some.injEq, exists_eq_left', wp_eqS' h2 ne, wp_eqS' h3 an, D.bl.injEq]
              cases decide (strike = "never") <;> simp
            · rw [decide_eq_false c8, if_neg c8]
              simp only [Bool.false_eq_true, if_false, wp_and, wp_bin, wp_var, wp_c, List.getElem?_cons_zero, List.getElem?_cons_succ, Option.some.injEq, exists_eq_left', wp_eqS' h3 li, wp_neS' h2 al, D.bl.injEq]
              cases decide (find = "live") <;> simp
    · rw [decide_eq_false c2]
      simp only [Bool.not_false, if_true, wp_sRet, wp_c]
      exact ⟨by unfold safeB; rw [if_pos (.inr (.inl c2))], trivial⟩
  · rw [decide_eq_false c1]
    simp only [Bool.not_false, if_true, wp_sRet, wp_c]
    exact ⟨by unfold safeB; rw [if_pos (.inl c1)], trivial⟩
end Fe.k28
namespace Fe.k28
open PySem PySem.Spec PyProof.Rows L2 Fe
/-! ## a drawn BOOK -/
theorem Bag.set' {s : Sto} {b l : Nat} {c : Cell} (h : Bag s b) (hl : b < l) : Bag (s.set l c) b := by
  obtain ⟨a, sd, n, l3, l4, cells, hb, h3, z⟩ := h
  have n3 : l3 ≠ l := by have := z.2.2.2.2.1; omega
  exact ⟨a, sd, n, l3, l4, cells, get_off (by omega) hb, get_off n3 h3, z⟩
theorem Grow.set' {st s : Sto} {b l : Nat} {c : Cell} (h : Grow b st s) (hl : st.length ≤ l) : Grow b st (s.set l c) :=
  ⟨by rw [List.length_set]; exact h.1, fun k nk lt => by rw [List.getElem?_set_ne (by omega)]; exact h.2 k nk lt⟩
theorem pick {b : Nat} {r : DEnv} {s : Sto} {g : Fa} {xs : List D} {Q : D → Sto → Prop} (B : Bag s b) (hv : r[0]? = some (some (.loc b))) (hg : ∀ s, g r s = some (xs, s)) (h0 : xs ≠ []) (h1 : xs.length ≤ 1000)
    (hq : ∀ d s', d ∈ xs → Bag s' b → Grow b s s' → Q d s') : Wp (eCall m_law_some (aCons (eVar 0) (aCons (eLst g) aNil)) r) s Q := by
  rw [some_is, wp_call]
  simp only [wp_cons, wp_nil, wp_var, hv, Option.some.injEq, exists_eq_left', wp_lst]
  rw [wp_run (hg s)]
  have := B.lt
  refine ⟨Nat.le_trans h1 (by decide), ?_⟩
  exact (some_ok (xs := xs) B.app (by simp only [seqOf, get_end]) (by intro q; cases q; omega) h0 (by omega)).mono fun d s' ⟨hd, B', G⟩ => hq d s' hd B' (Grow.app.trans G)
def FM : List (List D) := [[.str "fresh", .str "kept"], [.int 0, .int 1, .int 2, .int 3], [.int 0, .int 1, .int 2, .int 3], [.int 0, .int 1, .int 2, .int 3], [.int 0, .int 1, .int 2, .int 3], [.str "always", .str "never", .str "own"], [.str "any", .str "live"], [.str "ahead", .str "behind"], [.str "address", .str "index"]]
def Fit (ds : List D) : Prop := Paired (fun d (m : List D) => d ∈ m) ds FM
theorem paired_set {α β : Type} {R : α → β → Prop} : ∀ {xs : List α} {ys : List β} {i : Nat} {x : α} {y : β}, Paired R xs ys → ys[i]? = some y → R x y → Paired R (xs.set i x) ys
  | _, _, i, _, _, .nil, h, _ => by simp at h
  | _, _, 0, _, _, .cons r t, h, q => by
    simp at h
    subst h
    exact .cons q t
  | _, _, i + 1, _, _, .cons r t, h, q => .cons r (paired_set t (by simpa using h) q)
theorem paired_length {α β : Type} {R : α → β → Prop} : ∀ {xs : List α} {ys : List β}, Paired R xs ys → xs.length = ys.length
  | _, _, .nil => rfl
  | _, _, .cons _ t => by rw [List.length_cons, List.length_cons, paired_length t]
theorem fit_len {ds : List D} (h : Fit ds) : ds.length = 9 := paired_length h
def lb1 : Fs := sPar 5 6 (aCons (eCall m_law_some (aCons (eVar 0) (aCons (eLst (aCons (eC (.str "kept")) (aCons (eC (.str "fresh")) (aCons (eC (.str "kept")) aNil)))) aNil))) (aCons (eCall m_law_some (aCons (eVar 0) (aCons (eLst (aCons (eC (.int 1)) (aCons (eC (.int 1)) (aCons (eC (.int 2)) (aCons (eC (.int 3)) aNil))))) aNil))) aNil))
def lb2 : Fs := sAsg (eCall m_law_some (aCons (eVar 0) (aCons (eLst (aCons (eC (.str "ahead")) (aCons (eC (.str "behind")) aNil))) aNil))) (gtName 1)
def lb3 : Fs := sPar 7 8 (aCons (eCall m_law_some (aCons (eVar 0) (aCons (eLst (aCons (eC (.str "own")) (aCons (eC (.str "never")) aNil))) aNil))) (aCons (eC (.str "live")) aNil))
def lb4l : Fa := aCons (eTup (aCons (eC (.str "own")) (aCons (eC (.str "live")) aNil))) (aCons (eTup (aCons (eC (.str "own")) (aCons (eC (.str "any")) aNil))) (aCons (eTup (aCons (eC (.str "always")) (aCons (eC (.str "any")) aNil))) (aCons (eTup (aCons (eC (.str "always")) (aCons (eC (.str "live")) aNil))) (aCons (eTup (aCons (eC (.str "never")) (aCons (eC (.str "live")) aNil))) aNil))))
def lb4 : Fs := sIf (asB (eBin gEqA (eVar 1) (eC (.str "ahead")))) (sAsg (eCall m_law_some (aCons (eVar 0) (aCons (eLst lb4l) aNil))) (gtTup 2 (gsCons (gtName 7) (gsCons (gtName 8) gsNil)))) sNil
def lb5 : Fs := sAsg (eLst (aCons (eVar 5) (aCons (eVar 6) (aCons (eC (.int 0)) (aCons (eVar 6) (aCons (eC (.int 1)) (aCons (eVar 7) (aCons (eVar 8) (aCons (eVar 1) (aCons (eC (.str "index")) aNil)))))))))) (gtName 2)
def lb6 : Fs := sIf (asB (eBin gEqA (eVar 5) (eC (.str "fresh")))) (sAsg (eTup (aCons (eCall m_law_take (aCons (eVar 0) (aCons (eC (.int 3)) aNil))) (aCons (eCall m_law_some (aCons (eVar 0) (aCons (eLst (aCons (eC (.str "index")) (aCons (eC (.str "address")) aNil))) aNil))) aNil))) (gtTup 2 (gsCons (gtSub (eVar 2) (eC (.int 2)) gSetL) (gsCons (gtSub (eVar 2) (eC (.int 8)) gSetL) gsNil)))) sNil
def lb7 : Fs := sAsg (eBin gAdd (eBin gAdd (eLst (aCons (eLst (aCons (eC (.str "fresh")) (aCons (eC (.str "kept")) aNil))) aNil)) (eBin gMulL (eLst (aCons (eLst (aCons (eC (.int 0)) (aCons (eC (.int 1)) (aCons (eC (.int 2)) (aCons (eC (.int 3)) aNil))))) aNil)) (eC (.int 4)))) (eLst (aCons (eLst (aCons (eC (.str "always")) (aCons (eC (.str "never")) (aCons (eC (.str "own")) aNil)))) (aCons (eLst (aCons (eC (.str "any")) (aCons (eC (.str "live")) aNil))) (aCons (eLst (aCons (eC (.str "ahead")) (aCons (eC (.str "behind")) aNil))) (aCons (eLst (aCons (eC (.str "address")) (aCons (eC (.str "index")) aNil))) aNil)))))) (gtName 3)
def lb8 : Fs := sFor (iRange (aCons (eCall m_law_some (aCons (eVar 0) (aCons (eLst (aCons (eC (.int 0)) (aCons (eC (.int 1)) (aCons (eC (.int 1)) (aCons (eC (.int 2)) (aCons (eC (.int 5)) aNil)))))) aNil))) aNil)) (gtName 4) b_law_book1
theorem book_is : m_law_book = runB 10 (sSeq lb1 (sSeq lb2 (sSeq lb3 (sSeq lb4 (sSeq lb5 (sSeq lb6 (sSeq lb7 (sSeq lb8 (sRet (eCall gTuple (aCons (eVar 2) aNil))))))))))) := rfl
section
variable {b : Nat} {st : Sto}
theorem lb1_ok (B : Bag st b) : Wp (lb1 [some (.loc b), none, none, none, none, none, none, none, none, none]) st fun o s => ∃ r1, o = .nx r1 ∧ ∃ w mn, r1 = [some (.loc b), none, none, none, none, some w, some mn, none, none, none] ∧ w ∈ [D.str "fresh", .str "kept"] ∧ mn ∈ [D.int 0, .int 1, .int 2, .int 3] ∧ Bag s b ∧ Grow b st s := by
  unfold lb1
  rw [wp_sPar, wp_cons]
  refine pick (xs := [.str "kept", .str "fresh", .str "kept"]) B rfl (fun s => rfl) (by simp) (by simp) fun w s1 hw B1 G1 => ?_
  rw [wp_cons]
  refine pick (xs := [.int 1, .int 1, .int 2, .int 3]) B1 rfl (fun s => rfl) (by simp) (by simp) fun mn s2 hm B2 G2 => ?_
  rw [wp_nil]
  refine ⟨_, _, rfl, _, rfl, w, mn, rfl, ?_, ?_, B2, G1.trans G2⟩
  · simp only [List.mem_cons, List.not_mem_nil, or_false] at hw ⊢
    rcases hw with e | e | e <;> simp [e]
  · simp only [List.mem_cons, List.not_mem_nil, or_false] at hm ⊢
    rcases hm with e | e | e | e <;> simp [e]
theorem lb2_ok {w mn : D} (B : Bag st b) : Wp (lb2 [some (.loc b), none, none, none, none, some w, some mn, none, none, none]) st fun o s => ∃ r1, o = .nx r1 ∧ ∃ dr, r1 = [some (.loc b), some (.str dr), none, none, none, some w, some mn, none, none, none] ∧ D.str dr ∈ [D.str "ahead", .str "behind"] ∧ Bag s b ∧ Grow b st s := by
  unfold lb2
  rw [wp_sAsg]
  refine pick (xs := [.str "ahead", .str "behind"]) B rfl (fun s => rfl) (by simp) (by simp) fun d s1 hd B1 G1 => ?_
  rw [wp_gtName]
  obtain ⟨dr, rfl⟩ : ∃ dr, d = .str dr := by
    simp only [List.mem_cons, List.not_mem_nil, or_false] at hd
    rcases hd with e | e <;> exact ⟨_, e⟩
  exact ⟨_, rfl, dr, rfl, hd, B1, G1⟩
theorem lb3_ok {w mn d : D} (B : Bag st b) : Wp (lb3 [some (.loc b), some d, none, none, none, some w, some mn, none, none, none]) st fun o s => ∃ r1, o = .nx r1 ∧ ∃ x y, r1 = [some (.loc b), some d, none, none, none, some w, some mn, some x, some y, none] ∧ x ∈ [D.str "always", .str "never", .str "own"] ∧ y ∈ [D.str "any", .str "live"] ∧ Bag s b ∧ Grow b st s := by
  unfold lb3
  rw [wp_sPar, wp_cons]
  refine pick (xs := [.str "own", .str "never"]) B rfl (fun s => rfl) (by simp) (by simp) fun x s1 hx B1 G1 => ?_
  simp only [wp_cons, wp_c, wp_nil]
  refine ⟨_, _, rfl, _, rfl, x, _, rfl, ?_, by simp, B1, G1⟩
  simp only [List.mem_cons, List.not_mem_nil, or_false] at hx ⊢
  rcases hx with e | e <;> simp [e]
theorem lb4_ok {w mn x y : D} {dr : Str} (hd : D.str dr ∈ [D.str "ahead", .str "behind"]) (hx : x ∈ [D.str "always", .str "never", .str "own"]) (hy : y ∈ [D.str "any", .str "live"]) (B : Bag st b) :
    Wp (lb4 [some (.loc b), some (.str dr), none, none, none, some w, some mn, some x, some y, none]) st fun o s => ∃ r1, o = .nx r1 ∧ ∃ x y, r1 = [some (.loc b), some (.str dr), none, none, none, some w, some mn, some x, some y, none] ∧ x ∈ [D.str "always", .str "never", .str "own"] ∧ y ∈ [D.str "any", .str "live"] ∧ Bag s b ∧ Grow b st s := by
  have hdr : TXok dr := by
    simp only [List.mem_cons, List.not_mem_nil, or_false, D.str.injEq] at hd
    rcases hd with e | e <;> subst e <;> (show PyData.strOk _ = true) <;> decide +kernel
  unfold lb4
  rw [wp_sIf]
  simp only [wp_asB, wp_bin, wp_var, wp_c, List.getElem?_cons_zero, List.getElem?_cons_succ, Option.some.injEq, exists_eq_left', wp_eqS' hdr (ok_w "ahead" (by simp)), D.bl.injEq]
  split
  · rw [wp_sAsg]
    refine pick (xs := [.tup [.str "own", .str "live"], .tup [.str "own", .str "any"], .tup [.str "always", .str "any"], .tup [.str "always", .str "live"], .tup [.str "never", .str "live"]]) B rfl (fun s => rfl) (by simp) (by simp) fun t s1 ht B1 G1 => ?_
    have : ∃ p q, t = .tup [.str p, .str q] ∧ D.str p ∈ [D.str "always", .str "never", .str "own"] ∧ D.str q ∈ [D.str "any", .str "live"] := by
      simp only [List.mem_cons, List.not_mem_nil, or_false] at ht
      rcases ht with e | e | e | e | e <;> exact ⟨_, _, e, by simp, by simp⟩
    obtain ⟨p, q, rfl, hp, hq⟩ := this
    rw [wp_run (show gtTup 2 (gsCons (gtName 7) (gsCons (gtName 8) gsNil)) (.tup [.str p, .str q]) [some (.loc b), some (.str dr), none, none, none, some w, some mn, some x, some y, none] s1 = some ([some (.loc b), some (.str dr), none, none, none, some w, some mn, some (.str p), some (.str q), none], s1) from rfl)]
    exact ⟨_, rfl, _, _, rfl, hp, hq, B1, G1⟩
  · rw [wp_sNil]
    exact ⟨_, rfl, _, _, rfl, hx, hy, B, .refl⟩
theorem lb5_ok {w mn x y d : D} (hw : w ∈ [D.str "fresh", .str "kept"]) (hm : mn ∈ [D.int 0, .int 1, .int 2, .int 3]) (hd : d ∈ [D.str "ahead", .str "behind"]) (hx : x ∈ [D.str "always", .str "never", .str "own"]) (hy : y ∈ [D.str "any", .str "live"]) (B : Bag st b) :
    Wp (lb5 [some (.loc b), some d, none, none, none, some w, some mn, some x, some y, none]) st fun o s => ∃ r1, o = .nx r1 ∧ ∃ ds, r1 = [some (.loc b), some d, some (.loc st.length), none, none, some w, some mn, some x, some y, none] ∧ s[st.length]? = some (.lst ds) ∧ Fit ds ∧ Bag s b ∧ Grow b st s := by
  unfold lb5
  rw [wp_sAsg]
  simp only [wp_lst, wp_cons, wp_nil, wp_var, wp_c, List.getElem?_cons_zero, List.getElem?_cons_succ, Option.some.injEq, exists_eq_left', wp_gtName]
  refine ⟨by show 9 ≤ sizeLine; decide, _, rfl, [w, mn, .int 0, mn, .int 1, x, y, d, .str "index"], rfl, get_end, ?_, B.app, .app⟩
  exact .cons hw (.cons hm (.cons (by simp) (.cons hm (.cons (by simp) (.cons hx (.cons hy (.cons hd (.cons (by simp) .nil))))))))
end
end Fe.k28
namespace Fe.k28
open PySem PySem.Spec PyProof.Rows L2 Fe
section
variable {b : Nat} {st : Sto}
theorem way_str {w : D} (hw : w ∈ [D.str "fresh", .str "kept"]) : ∃ x, w = .str x ∧ TXok x := by
  simp only [List.mem_cons, List.not_mem_nil, or_false] at hw
  rcases hw with e | e
  · exact ⟨_, e, by show PyData.strOk _ = true; decide +kernel⟩
  · exact ⟨_, e, by show PyData.strOk _ = true; decide +kernel⟩
theorem lb6_ok {w mn x y d : D} {s0 : Sto} {lb : Nat} {ds : List D} (hw : w ∈ [D.str "fresh", .str "kept"]) (hl : st[lb]? = some (.lst ds)) (hb : b < lb) (hs : s0.length ≤ lb) (F : Fit ds) (B : Bag st b) (G0 : Grow b s0 st) :
    Wp (lb6 [some (.loc b), some d, some (.loc lb), none, none, some w, some mn, some x, some y, none]) st fun o s => ∃ r1, o = .nx r1 ∧ r1 = [some (.loc b), some d, some (.loc lb), none, none, some w, some mn, some x, some y, none] ∧ ∃ ds, s[lb]? = some (.lst ds) ∧ Fit ds ∧ Bag s b ∧ Grow b s0 s := by
  obtain ⟨wx, rfl, hwx⟩ := way_str hw
  unfold lb6
  rw [wp_sIf]
  simp only [wp_asB, wp_bin, wp_var, wp_c, List.getElem?_cons_zero, List.getElem?_cons_succ, Option.some.injEq, exists_eq_left', wp_eqS' hwx (ok_w "fresh" (by simp)), D.bl.injEq]
  split
  · rw [wp_sAsg, wp_tup, wp_cons, take_is, wp_call]
    simp only [wp_cons, wp_nil, wp_var, wp_c, List.getElem?_cons_zero, Option.some.injEq, exists_eq_left']
    refine (take_ok B (many := 3) (by omega) (by omega)).mono fun t s1 ⟨i, e, i0, i1, B1, G1⟩ => ?_
    subst e
    refine pick (xs := [.str "index", .str "address"]) B1 rfl (fun s => rfl) (by simp) (by simp) fun h s2 hh B2 G2 => ?_
    refine ⟨by show 2 ≤ sizeLine; decide, ?_⟩
    have hl2 : s2[lb]? = some (.lst ds) := G2.get (by omega) (G1.get (by omega) hl)
    show Wp (bnd (gtSub (eVar 2) (eC (.int 2)) gSetL (.int i) [some (.loc b), some d, some (.loc lb), none, none, some (.str wx), some mn, some x, some y, none]) fun r1 => bnd (gtSub (eVar 2) (eC (.int 8)) gSetL h r1) fun r2 => gsNil [] r2) s2 _
    rw [wp_bnd, wp_gtSub]
    have fl := fit_len F
    simp only [wp_var, wp_c, List.getElem?_cons_zero, List.getElem?_cons_succ, Option.some.injEq, exists_eq_left', wp_setL hl2 (show 0 ≤ (2 : Int) ∧ (2 : Int) < (ds.length : Int) from ⟨by omega, by omega⟩)]
    rw [wp_bnd, wp_gtSub]
    simp only [wp_var, wp_c, List.getElem?_cons_zero, List.getElem?_cons_succ, Option.some.injEq, exists_eq_left', wp_setL (get_put hl2) (show 0 ≤ (8 : Int) ∧ (8 : Int) < ((ds.set (2 : Int).toNat (.int i)).length : Int) from ⟨by omega, by rw [List.length_set]; omega⟩)]
    rw [wp_run (show gsNil [] [some (.loc b), some d, some (.loc lb), none, none, some (.str wx), some mn, some x, some y, none] ((s2.set lb (.lst (ds.set (2 : Int).toNat (.int i)))).set lb (.lst ((ds.set (2 : Int).toNat (.int i)).set (8 : Int).toNat h))) = some ([some (.loc b), some d, some (.loc lb), none, none, some (.str wx), some mn, some x, some y, none], _) from rfl)]
    refine ⟨_, rfl, rfl, _, get_put (get_put hl2), ?_, Bag.set' (Bag.set' B2 hb) hb, Grow.set' (Grow.set' (G0.trans (G1.trans G2)) hs) hs⟩
    have hi : D.int i ∈ [D.int 0, .int 1, .int 2, .int 3] := by
      have : i = 0 ∨ i = 1 ∨ i = 2 := by omega
      rcases this with e | e | e <;> subst e <;> simp
    have hh' : h ∈ [D.str "address", .str "index"] := by
      simp only [List.mem_cons, List.not_mem_nil, or_false] at hh ⊢
      rcases hh with e | e <;> simp [e]
    exact paired_set (i := 8) (paired_set (i := 2) F rfl hi) rfl hh'
  · rw [wp_sNil]
    exact ⟨_, rfl, rfl, ds, hl, F, B, G0⟩
theorem rep4 {v : D} {s : Sto} {l : Nat} (h : s[l]? = some (.lst [v])) : gMulL (.loc l) (.int 4) s = some (.loc s.length, s ++ [.lst [v, v, v, v]]) := by
  have e : gMul (.loc l) (.int 4) s = none := rfl
  have e2 : gRep (.loc l) (.int 4) s = some (.loc s.length, s ++ [.lst [v, v, v, v]]) := by
    simp only [gRep, h]
    rw [if_pos ⟨by decide, by decide, by simp⟩]
    rfl
  unfold gMulL or2
  rw [e2]
  first
  | rw [e]
  | skip
/-- the nine menus, in the store -/
def Menus (b : Nat) (lo : Nat) (s : Sto) (lm : Nat) : Prop := ∃ ls : List Nat, s[lm]? = some (.lst (ls.map .loc)) ∧ lo ≤ lm ∧ Paired (fun l m => lo ≤ l ∧ s[l]? = some (.lst m)) ls FM
theorem paired_map {α β : Type} {R S : α → β → Prop} (f : ∀ x y, R x y → S x y) : ∀ {xs : List α} {ys : List β}, Paired R xs ys → Paired S xs ys
  | _, _, .nil => .nil
  | _, _, .cons r t => .cons (f _ _ r) (paired_map f t)
theorem Menus.go {s s' : Sto} {lo lm : Nat} (h : Menus b lo s lm) (i : ∀ l c, lo ≤ l → s[l]? = some c → s'[l]? = some c) : Menus b lo s' lm := by
  obtain ⟨ls, e, hlo, p⟩ := h
  exact ⟨ls, i _ _ hlo e, hlo, paired_map (fun l m r => ⟨r.1, i _ _ r.1 r.2⟩) p⟩
theorem lb7_ok {w mn x y d : D} {lb : Nat} (B : Bag st b) :
    Wp (lb7 [some (.loc b), some d, some (.loc lb), none, none, some w, some mn, some x, some y, none]) st fun o s => ∃ r1, o = .nx r1 ∧ ∃ lm, r1 = [some (.loc b), some d, some (.loc lb), some (.loc lm), none, some w, some mn, some x, some y, none] ∧ Menus b st.length s lm ∧ Bag s b ∧ Ext st s := by
  unfold lb7
  rw [wp_sAsg, wp_bin, wp_bin]
  simp only [wp_lst, wp_cons, wp_nil, wp_c]
  refine ⟨by show 2 ≤ sizeLine; decide, by show 1 ≤ sizeLine; decide, ?_⟩
  rw [wp_bin]
  simp only [wp_lst, wp_cons, wp_nil, wp_c]
  refine ⟨by show 4 ≤ sizeLine; decide, by show 1 ≤ sizeLine; decide, ?_⟩
  rw [wp_run (rep4 get_end)]
  have g1 : ∀ (s : Sto) (c1 c2 c3 c4 : Cell), ((((s ++ [c1]) ++ [c2]) ++ [c3]) ++ [c4])[(s ++ [c1]).length]? = some c2 := fun s c1 c2 c3 c4 => by simp
  have g2 : ∀ (s : Sto) (c1 c2 c3 c4 : Cell), ((((s ++ [c1]) ++ [c2]) ++ [c3]) ++ [c4])[s.length]? = some c1 := fun s c1 c2 c3 c4 => by simp
  rw [wp_addL (get_app (get_app (get_app get_end))) get_end (by show 5 ≤ sizeLine; decide)]
  refine ⟨by show 3 ≤ sizeLine; decide, by show 2 ≤ sizeLine; decide, by show 2 ≤ sizeLine; decide, by show 2 ≤ sizeLine; decide, by show 4 ≤ sizeLine; decide, ?_⟩
  rw [wp_addL (get_app (get_app (get_app (get_app (get_app get_end))))) get_end (by show 9 ≤ sizeLine; decide)]
  rw [wp_gtName]
  refine ⟨_, rfl, _, rfl, ?_, ?_, ?_⟩
  · refine ⟨[st.length, st.length + 2, st.length + 2, st.length + 2, st.length + 2, st.length + 6, st.length + 7, st.length + 8, st.length + 9], ?_, ?_, ?_⟩
    · simp [List.getElem?_append]
    · simp only [List.length_append]; omega
    · refine .cons ⟨by omega, ?_⟩ (.cons ⟨by omega, ?_⟩ (.cons ⟨by omega, ?_⟩ (.cons ⟨by omega, ?_⟩ (.cons ⟨by omega, ?_⟩ (.cons ⟨by omega, ?_⟩ (.cons ⟨by omega, ?_⟩ (.cons ⟨by omega, ?_⟩ (.cons ⟨by omega, ?_⟩ .nil)))))))) <;> simp [List.getElem?_append]
  · exact B.app.app.app.app.app.app.app.app.app.app.app.app
  · exact Ext.refl.app.app.app.app.app.app.app.app.app.app.app.app
end
end Fe.k28
namespace Fe.k28
open PySem PySem.Spec PyProof.Rows L2 Fe
section
variable {b : Nat} {st : Sto}
theorem fm_ne : ∀ m, m ∈ FM → m ≠ [] ∧ m.length ≤ 1000 := by
  intro m hm
  simp only [FM, List.mem_cons, List.not_mem_nil, or_false] at hm
  rcases hm with e | e | e | e | e | e | e | e | e <;> subst e <;> exact ⟨by simp, by simp⟩
theorem menu_at {lo lm : Nat} {s : Sto} {i : Int} (M : Menus b lo s lm) (h0 : 0 ≤ i) (h1 : i < 9) : ∃ (ls : List Nat) (l : Nat) (m : List D), s[lm]? = some (.lst (ls.map D.loc)) ∧ L2.atI (ls.map D.loc) i = some (.loc l) ∧ FM[i.toNat]? = some m ∧ m ∈ FM ∧ lo ≤ l ∧ s[l]? = some (.lst m) := by
  obtain ⟨ls, e, hlo, p⟩ := M
  have hl : ls.length = 9 := paired_length p
  have go : ∀ {xs : List Nat} {ys : List (List D)} (k : Nat), Paired (fun l m => lo ≤ l ∧ s[l]? = some (.lst m)) xs ys → k < xs.length → ∃ l m, xs[k]? = some l ∧ ys[k]? = some m ∧ lo ≤ l ∧ s[l]? = some (.lst m) := fun {xs ys} k p => by
    induction p generalizing k with
    | nil => intro h; simp at h
    | cons r t ih =>
      intro h
      cases k with
      | zero => exact ⟨_, _, rfl, rfl, r⟩
      | succ k => simpa using ih k (by simpa using h)
  obtain ⟨l, m, e1, e2, hlo2, hm⟩ := go i.toNat p (by omega)
  refine ⟨ls, l, m, e, ?_, e2, List.mem_of_getElem? e2, hlo2, hm⟩
  have hi : i = ((i.toNat : Nat) : Int) := by omega
  rw [hi]
  exact atI_nat (by rw [List.getElem?_map, e1]; rfl)
def E8 (b lb lm : Nat) (r : DEnv) : Prop := ∃ a1 a4 a5 a6 a7 a8 a9, r = [some (.loc b), a1, some (.loc lb), some (.loc lm), a4, a5, a6, a7, a8, a9]
theorem lb8_ok {s0 : Sto} {lb lm lo : Nat} {ds : List D} {r : DEnv} (hr : E8 b lb lm r) (hl : st[lb]? = some (.lst ds)) (hb : b < lb) (hs : s0.length ≤ lb) (hlo : lb < lo) (F : Fit ds) (M : Menus b lo st lm) (B : Bag st b) (G0 : Grow b s0 st) :
    Wp (lb8 r) st fun o s => ∃ r1, o = .nx r1 ∧ E8 b lb lm r1 ∧ ∃ ds, s[lb]? = some (.lst ds) ∧ Fit ds ∧ Bag s b ∧ Grow b s0 s := by
  obtain ⟨a1, a4, a5, a6, a7, a8, a9, rfl⟩ := hr
  unfold lb8
  rw [wp_for]
  unfold iRange
  rw [wp_bnd, wp_cons]
  refine pick (xs := [.int 0, .int 1, .int 1, .int 2, .int 5]) B rfl (fun s => rfl) (by simp) (by simp) fun j s1 hj B1 G1 => ?_
  rw [wp_nil]
  obtain ⟨k, rfl, hk⟩ : ∃ k : Int, j = .int k ∧ inRng k = true := by
    simp only [List.mem_cons, List.not_mem_nil, or_false] at hj
    rcases hj with e | e | e | e | e <;> exact ⟨_, e, by decide⟩
  rw [wp_run (show (match [D.int k] with
    | [.int j] => if inRng j = true then some ((rngL 0 j.toNat, okAll), s1) else none
    | _ => none) = some ((rngL 0 k.toNat, okAll), s1) by simp only [hk, if_true])]
  refine wp_forF (fun _ r s => E8 b lb lm r ∧ ∃ ds, s[lb]? = some (.lst ds) ∧ Fit ds ∧ Menus b lo s lm ∧ Bag s b ∧ Grow b s0 s) (fun _ _ _ _ => rfl) ?_ _ _ _ _ ⟨⟨_, _, _, _, _, _, _, rfl⟩, ds, G1.get (by omega) hl, F, M.go fun l c h e => G1.get (by omega) e, B1, G0.trans G1⟩ ?_
  · rintro d _ r s ⟨⟨a1, a4, a5, a6, a7, a8, a9, rfl⟩, ds, hl, F, M, B, G⟩
    rw [wp_gtName]
    show Wp (b_law_book1 [some (.loc b), a1, some (.loc lb), some (.loc lm), some d, a5, a6, a7, a8, a9]) s _
    unfold b_law_book1
    rw [wp_seq, wp_sAsg, take_is, wp_call]
    simp only [wp_cons, wp_nil, wp_var, wp_c, List.getElem?_cons_zero, Option.some.injEq, exists_eq_left']
    refine (take_ok B (many := 9) (by omega) (by omega)).mono fun t s2 ⟨i, e, i0, i1, B2, G2⟩ => ?_
    subst e
    rw [wp_gtName]
    show Wp (sAsg _ _ [some (.loc b), a1, some (.loc lb), some (.loc lm), some d, a5, a6, a7, a8, some (.int i)]) s2 _
    have hl2 : s2[lb]? = some (.lst ds) := G2.get (by omega) hl
    have M2 : Menus b lo s2 lm := M.go fun l c h e => G2.get (by omega) e
    obtain ⟨ls, l, m, hlm, hat, hfm, hmem, hlo2, hm⟩ := menu_at M2 i0 i1
    rw [wp_sAsg, some_is, wp_call]
    simp only [wp_cons, wp_nil, wp_bin, wp_var, List.getElem?_cons_zero, List.getElem?_cons_succ, Option.some.injEq, exists_eq_left', wp_ixL hlm hat]
    have ne := fm_ne m hmem
    refine (some_ok (xs := m) B2 (by simp only [seqOf, hm]) (by intro q; cases q; omega) ne.1 (by omega)).mono fun v s3 ⟨hv, B3, G3⟩ => ?_
    have hl3 := G3.get (by omega) hl2
    have fl := fit_len F
    rw [wp_gtSub]
    simp only [wp_var, List.getElem?_cons_zero, List.getElem?_cons_succ, Option.some.injEq, exists_eq_left', wp_setL hl3 (show 0 ≤ i ∧ i < (ds.length : Int) from ⟨i0, by omega⟩)]
    refine ⟨_, .inl rfl, ⟨_, _, _, _, _, _, _, rfl⟩, _, get_put hl3, paired_set F hfm hv, ?_, Bag.set' B3 hb, Grow.set' (G.trans (G2.trans G3)) hs⟩
    exact M2.go fun l c h e => get_off (by omega) (G3.get (by omega) e)
  · rintro r s ⟨e8, ds, hl, F, _, B, G⟩
    exact ⟨r, rfl, e8, ds, hl, F, B, G⟩
theorem drawn_ok (B : Bag st b) : Wp (m_law_book [.loc b]) st fun v s => ∃ ds, v = .tup ds ∧ Fit ds ∧ Bag s b ∧ Grow b st s := by
  rw [book_is, wp_runB]
  show Wp (sSeq _ _ [some (.loc b), none, none, none, none, none, none, none, none, none]) st _
  refine wp_seqN _ (lb1_ok B) ?_
  rintro r s1 ⟨w, mn, rfl, hw, hm, B1, G1⟩
  refine wp_seqN _ (lb2_ok B1) ?_
  rintro r s2 ⟨dr, rfl, hd, B2, G2⟩
  refine wp_seqN _ (lb3_ok B2) ?_
  rintro r s3 ⟨x, y, rfl, hx, hy, B3, G3⟩
  refine wp_seqN _ (lb4_ok hd hx hy B3) ?_
  rintro r s4 ⟨x, y, rfl, hx, hy, B4, G4⟩
  refine wp_seqN _ (lb5_ok hw hm hd hx hy B4) ?_
  rintro r s5 ⟨ds, rfl, hl, F, B5, G5⟩
  have G05 := G1.trans (G2.trans (G3.trans (G4.trans G5)))
  have hb : b < s4.length := B4.lt
  have hs : st.length ≤ s4.length := (G1.trans (G2.trans (G3.trans G4))).1
  refine wp_seqN _ (lb6_ok (s0 := st) hw hl hb hs F B5 G05) ?_
  rintro r s6 ⟨rfl, ds, hl, F, B6, G6⟩
  have hlt : s4.length < s6.length := (List.getElem?_eq_some_iff.mp hl).1
  refine wp_seqN _ (lb7_ok B6) ?_
  rintro r s7 ⟨lm, rfl, M, B7, E7⟩
  refine wp_seqN _ (lb8_ok (s0 := st) ⟨_, _, _, _, _, _, _, rfl⟩ (E7.get hl) hb hs hlt F M B7 (G6.trans E7.grow)) ?_
  rintro r s8 ⟨⟨a1, a4, a5, a6, a7, a8, a9, rfl⟩, ds, hl, F, B8, G8⟩
  rw [wp_sRet, wp_call]
  simp only [wp_cons, wp_nil, wp_var, List.getElem?_cons_zero, List.getElem?_cons_succ, Option.some.injEq, exists_eq_left']
  rw [wp_run (show gTuple [.loc s4.length] s8 = some (.tup ds, s8) by simp only [gTuple, seqOf, hl, Option.map_some])]
  exact ⟨ds, rfl, F, B8, G8⟩
end
end Fe.k28
namespace Fe.k28
open PySem PySem.Spec PyProof.Rows L2 Fe
/-! ## what the law wants of the program -/
def BookOk : Prop := ∀ (st : Sto) (d : D) (t : String), tyName st d = some t → (∀ xs, d = .tup xs ∨ d = .ptp xs → xs.length ≤ 1000000 ∧ ∀ x, x ∈ xs → ∃ t, tyName st x = some t) → (∀ x, d = .str x → x.length ≤ 1000000) → Wp (m_is_book [d]) st fun v s => v = .bl (bookB d) ∧ Ext st s
def SafeOk : Prop := ∀ (st : Sto) (way strike find drain hold : Str) (up more down home : Int), TXok way → TXok strike → TXok find → TXok drain → TXok hold → Wp (m_is_safe [bk way up more down home strike find drain hold]) st fun v s => v = .bl (safeB way up more down home strike find drain hold) ∧ Ext st s
theorem bag_is : m_law_bag = m_bag := rfl
abbrev OK (b : Nat) : Sto → D → Prop := OV b 60 1000000
theorem ok_val {b : Nat} {s : Sto} {d : D} (h : OK b s d) : Val s b d := h
/-! ## a drawn BOOK's items -/
theorem str_of {d : D} {ws : List Str} (h : d ∈ ws.map D.str) (hw : ∀ x, x ∈ ws → PyData.strOk x = true ∧ x ∈ TX) : ∃ x, d = .str x ∧ x ∈ ws ∧ TXok x ∧ x ∈ TX := by
  obtain ⟨x, hx, rfl⟩ := List.mem_map.mp h
  exact ⟨x, rfl, hx, (hw x hx).1, (hw x hx).2⟩
theorem int_of {d : D} (h : d ∈ [D.int 0, .int 1, .int 2, .int 3]) : ∃ i : Int, d = .int i ∧ 0 ≤ i ∧ i ≤ 3 := by
  simp only [List.mem_cons, List.not_mem_nil, or_false] at h
  rcases h with e | e | e | e <;> exact ⟨_, e, by omega, by omega⟩
theorem pinv {α β : Type} {R : α → β → Prop} {xs : List α} {y : β} {ys : List β} (h : Paired R xs (y :: ys)) : ∃ x xs', xs = x :: xs' ∧ R x y ∧ Paired R xs' ys := by
  cases h with
  | cons r t => exact ⟨_, _, rfl, r, t⟩
theorem fit_bk {ds : List D} (F : Fit ds) : ∃ way strike find drain hold up more down home, D.tup ds = bk way up more down home strike find drain hold ∧ TXok way ∧ TXok strike ∧ TXok find ∧ TXok drain ∧ TXok hold ∧ InV 1 (.tup ds) ∧
    bookB (.tup ds) = true ∧ ∀ n : Int, 0 ≤ n → bookB (bk way n 0 n home strike find drain hold) = true := by
  unfold Fit FM at F
  obtain ⟨d0, _, rfl, h0, F⟩ := pinv F
  obtain ⟨d1, _, rfl, h1, F⟩ := pinv F
  obtain ⟨d2, _, rfl, h2, F⟩ := pinv F
  obtain ⟨d3, _, rfl, h3, F⟩ := pinv F
  obtain ⟨d4, _, rfl, h4, F⟩ := pinv F
  obtain ⟨d5, _, rfl, h5, F⟩ := pinv F
  obtain ⟨d6, _, rfl, h6, F⟩ := pinv F
  obtain ⟨d7, _, rfl, h7, F⟩ := pinv F
  obtain ⟨d8, _, rfl, h8, F⟩ := pinv F
  cases F
  · skip
    obtain ⟨way, rfl, w0, x0, y0⟩ := str_of (ws := ["fresh", "kept"]) h0 (by decide +kernel)
    obtain ⟨up, rfl, p1, q1⟩ := int_of h1
    obtain ⟨more, rfl, p2, q2⟩ := int_of h2
    obtain ⟨down, rfl, p3, q3⟩ := int_of h3
    obtain ⟨home, rfl, p4, q4⟩ := int_of h4
    obtain ⟨strike, rfl, w5, x5, y5⟩ := str_of (ws := ["always", "never", "own"]) h5 (by decide +kernel)
    obtain ⟨find, rfl, w6, x6, y6⟩ := str_of (ws := ["any", "live"]) h6 (by decide +kernel)
    obtain ⟨drain, rfl, w7, x7, y7⟩ := str_of (ws := ["ahead", "behind"]) h7 (by decide +kernel)
    obtain ⟨hold, rfl, w8, x8, y8⟩ := str_of (ws := ["address", "index"]) h8 (by decide +kernel)
    have bks : ∀ (u m dn : Int), 0 ≤ u → 0 ≤ m → 0 ≤ dn → bookB (bk way u m dn home strike find drain hold) = true := fun u m dn hu hm hd => by
      simp only [bk, bookB, MEN, List.zip_cons_cons, List.zip_nil_right, List.all_cons, List.all_nil, itemB, List.length_cons, List.length_nil, decide_eq_true w0, decide_eq_true hu, decide_eq_true hm, decide_eq_true hd, decide_eq_true p4, decide_eq_true w5, decide_eq_true w6, decide_eq_true w7, decide_eq_true w8, Bool.and_self]
      decide
    refine ⟨way, strike, find, drain, hold, up, more, down, home, rfl, x0, x5, x6, x7, x8, ⟨by simp, fun x hx => ?_⟩, bks up more down p1 p2 p3, fun n hn => bks n 0 n hn (by omega) hn⟩
    simp only [List.mem_cons, List.not_mem_nil, or_false] at hx
    rcases hx with e | e | e | e | e | e | e | e | e <;> subst e
    · exact y0
    · exact ⟨p1, q1⟩
    · exact ⟨p2, q2⟩
    · exact ⟨p3, q3⟩
    · exact ⟨p4, q4⟩
    · exact y5
    · exact y6
    · exact y7
    · exact y8
/-! ## the two bodies -/
section
variable (hB : BookOk) (hS : SafeOk)
include hB hS in
theorem body1 {s : Sto} {way strike find drain hold : Str} {up more down home : Int} {a0 a1 a2 a3 a4 a5 a7 a8 a9 : Option D} (h1 : TXok way) (h2 : TXok strike) (h3 : TXok find) (h4 : TXok drain) (h5 : TXok hold) (hb : bookB (bk way up more down home strike find drain hold) = true) :
    Wp (b_law1 [a0, a1, a2, a3, a4, a5, some (bk way up more down home strike find drain hold), a7, a8, a9]) s fun o s2 => o = .nx [a0, a1, a2, a3, a4, a5, some (bk way up more down home strike find drain hold), a7, a8, a9] ∧ Ext s s2 := by
  unfold b_law1
  rw [wp_sIf]
  simp only [wp_not, wp_asB, wp_call, wp_lst, wp_cons, wp_nil, wp_var, wp_c, List.getElem?_cons_zero, List.getElem?_cons_succ, Option.some.injEq, exists_eq_left']
  refine (hB s _ "tuple" rfl (fun xs e => ?_) (fun x e => by cases e)).mono fun v s1 ⟨e, x1⟩ => ?_
  · rcases e with e | e
    · cases e
      refine ⟨by simp, fun x hx => ?_⟩
      simp only [List.mem_cons, List.not_mem_nil, or_false] at hx
      rcases hx with e | e | e | e | e | e | e | e | e <;> subst e <;> exact ⟨_, rfl⟩
    · cases e
  subst e
  refine (hS s1 way strike find drain hold up more down home h1 h2 h3 h4 h5).mono fun v s2 ⟨e, x2⟩ => ?_
  subst e
  refine ⟨by show 2 ≤ sizeLine; decide, ?_⟩
  have c1 := get_end (st := s2) (c := .lst [D.bl (bookB (bk way up more down home strike find drain hold)), .bl (safeB way up more down home strike find drain hold)])
  refine (lsafe_ok h1 h2 h3 h4 h5).mono fun v s3 ⟨e, e3⟩ => ?_
  subst e e3
  refine ⟨by show 2 ≤ sizeLine; decide, ?_⟩
  rw [hb] at c1 ⊢
  generalize safeB way up more down home strike find drain hold = q at *
  have c2 := get_end (st := s2 ++ [Cell.lst [D.bl true, .bl q]]) (c := .lst [D.bl true, .bl q])
  rw [alike_is]
  refine (alike_ok (p := .list [.bool true, .bool q]) (by rw [py_lst (get_app c1)]; rfl) (by rw [py_lst c2]; rfl) (by cases q <;> decide +kernel) (by cases q <;> decide +kernel) (by cases q <;> decide +kernel)).mono fun v s4 ⟨e, e4⟩ => ?_
  subst e e4
  refine ⟨_, rfl, ?_⟩
  simp only [Bool.not_true, Bool.false_eq_true, if_false, wp_sNil]
  exact ⟨trivial, (x1.trans x2).app.app⟩
include hB in
theorem body2 {s : Sto} {b : Nat} {d : D} {a0 a1 a2 a3 a4 a5 a6 a7 a9 : Option D} (V : Val s b d) : Wp (b_law2 [a0, a1, a2, a3, a4, a5, a6, a7, some d, a9]) s fun o s2 => (∃ z, o = .nx [a0, a1, a2, a3, a4, a5, a6, a7, some d, z]) ∧ Ext s s2 := by
  obtain ⟨t, ht⟩ := V.ty
  obtain ⟨x, hx, hrep⟩ := val_repr V
  have hr := hrep s .refl
  have hxs : ∀ xs, d = .tup xs ∨ d = .ptp xs → xs.length ≤ 1000000 ∧ ∀ x, x ∈ xs → ∃ t, tyName s x = some t := fun xs e => by
    rcases e with e | e
    · subst e; exact val_tup V
    · subst e; exact val_ptp V
  have hs : ∀ x, d = .str x → x.length ≤ 1000000 := fun x e => by subst e; exact val_str V
  unfold b_law2
  rw [wp_seq, wp_sAsg]
  simp only [wp_call, wp_cons, wp_nil, wp_var, List.getElem?_cons_zero, List.getElem?_cons_succ, Option.some.injEq, exists_eq_left', wp_run hr]
  rw [wp_gtName]
  show Wp (sIf _ _ _ [a0, a1, a2, a3, a4, a5, a6, a7, some d, some (.str x)]) _ _
  rw [wp_sIf, wp_orF]
  simp only [wp_not, wp_asB, wp_call, wp_cons, wp_nil, wp_var, List.getElem?_cons_zero, List.getElem?_cons_succ, Option.some.injEq, exists_eq_left']
  refine (hB s d t ht hxs hs).mono fun v s1 ⟨e, x1⟩ => ?_
  subst e
  refine (lbook_ok (ty_ext x1 ht) fun xs e y hy => let ⟨t, h⟩ := (hxs xs e).2 y hy; ⟨t, ty_ext x1 h⟩).mono fun v s2 ⟨e, x2⟩ => ?_
  subst e
  generalize bookB d = q at *
  rw [alike_is]
  refine (alike_ok (p := .bool q) rfl rfl (by cases q <;> decide +kernel) (by cases q <;> decide +kernel) (by cases q <;> decide +kernel)).mono fun v s3 ⟨e, e3⟩ => ?_
  subst e e3
  refine ⟨_, rfl, ?_⟩
  have hr2 := hrep s3 (x1.trans x2).grow
  simp only [Bool.not_true, Bool.false_eq_true, if_false, wp_bin, wp_call, wp_cons, wp_nil, wp_var, List.getElem?_cons_zero, List.getElem?_cons_succ, Option.some.injEq, exists_eq_left', wp_run hr2, wp_neS (as_ok hx) (as_ok hx), D.bl.injEq]
  have bx : (x == x) = true := by simp
  simp only [bx, Bool.not_true, Bool.false_eq_true, if_false, wp_sNil]
  exact ⟨⟨_, rfl⟩, x1.trans x2⟩
end
end Fe.k28
namespace Fe.k28
open PySem PySem.Spec PyProof.Rows L2 Fe
def t1 : Fs := sAsg (eCall m_law_book (aCons (eVar 1) aNil)) (gtName 3)
def t2 : Fs := sAsg (eCall m_take (aCons (eVar 1) (aCons (eC (.int 9)) aNil))) (gtName 4)
def t3 : Fs := sAsg (eBin gAdd (eBin gAdd (eSl gSl (eVar 3) oNone (oSome (eC (.int 1)))) (eTup (aCons (eBin gPow (eC (.int 10)) (eC (.int 30))) (aCons (eC (.int 0)) (aCons (eBin gPow (eC (.int 10)) (eC (.int 30))) aNil))))) (eSl gSl (eVar 3) (oSome (eC (.int 4))) oNone)) (gtName 5)
def t4 : Fs := sFor (iSeq (eTup (aCons (eVar 3) (aCons (eVar 5) aNil)))) (gtName 6) b_law1
def t5l : Fa := aCons (eCall gList (aCons (eVar 3) aNil)) (aCons (eSl gSl (eVar 3) oNone (oSome (eC (.int 8)))) (aCons (eBin gAdd (eVar 3) (eTup (aCons (eC (.str "own")) aNil))) (aCons (eRev (eVar 3)) (aCons (eBin gAdd (eBin gAdd (eSl gSl (eVar 3) oNone (oSome (eVar 4))) (eTup (aCons (eCall m_odd (aCons (eVar 1) aNil)) aNil))) (eSl gSl (eVar 3) (oSome (eBin gAdd (eVar 4) (eC (.int 1)))) oNone)) (aCons (eCall m_odd (aCons (eVar 1) aNil)) (aCons (eCall (m_law_bent 4) (aCons (eVar 1) (aCons (eVar 3) (aCons (eC (.int 2)) aNil)))) aNil))))))
def t5 : Fs := sAsg (eLst t5l) (gtName 7)
def t6 : Fs := sFor (iSeq (eVar 7)) (gtName 8) b_law2
theorem turn_is : b_law3 = sSeq t1 (sSeq t2 (sSeq t3 (sSeq t4 (sSeq t5 t6)))) := rfl
section
variable {b : Nat} {s0 : Sto} {a0 a2 a3 a4 a5 a6 a7 a8 a9 : Option D}
theorem ge_odd {r : DEnv} (h : r[1]? = some (some (.loc b))) : Ge b s0 (OK b) r (eCall m_odd (aCons (eVar 1) aNil)) := fun s G B => by
  rw [wp_call]
  simp only [wp_cons, wp_nil, wp_var, h, Option.some.injEq, exists_eq_left']
  exact (odd_ok B).mono fun v s2 ⟨p, B2, G2⟩ => ⟨ov_mono p (by decide) (by decide), B2, G2⟩
theorem t5_ok {ls : List D} {at_ : Int} (hin : InV 1 (.tup ls)) (h9 : ls.length = 9) : Ga b s0 (OK b) [a0, some (.loc b), a2, some (.tup ls), some (.int at_), a5, a6, a7, a8, a9] t5l 7 := by
  have hl := hin.1
  have hm : ∀ x, x ∈ ls → InV 0 x := hin.2
  have el : ∀ (s : Sto) x, x ∈ ls → PV s b 0 4000 x := fun s x hx => (in_pv 0 x (hm x hx)).1
  have elx : ∀ (s : Sto) x, x ∈ ls → XV s b 0 4000 x := fun s x hx => (in_pv 0 x (hm x hx)).2
  have tupP : ∀ (s : Sto) (ys : List D), (∀ y, y ∈ ys → PV s b 0 4000 y) → ys.length ≤ 20 → PV s b 60 1000000 (.tup ys) := fun s ys hy hlen => (pv_tup (k := 0) (B := 4000) (n := 20) (C := 100000) hy hlen (by omega)).mono (by decide) (by decide)
  have cl : ∀ lo hi, (cutD ls lo hi).length ≤ 9 := fun lo hi => Nat.le_trans cut_len hl
  have s9 : ∀ n m : Nat, n ≤ 10 → m ≤ 9 → n + m ≤ sizeLine := fun n m h h' => Nat.le_trans (by omega) (by decide : 19 ≤ sizeLine)
  unfold t5l
  refine ga_cons ov_keeps (fun s G B => ?_) (ga_cons ov_keeps (ge_run (v := .tup (cutD ls none (some 8))) (fun s => wp_app (Q := fun _ _ => True) ?_) fun s _ => .inl (tupP s _ (fun y h => el s y (mem_cut h)) (by have := cl none (some 8); omega)))
    (ga_cons ov_keeps (ge_run (v := .tup (ls ++ [.str "own"])) (fun s => wp_app (Q := fun _ _ => True) ?_) fun s _ => .inl (tupP s _ (fun y h => (List.mem_append.mp h).elim (el s y) fun q => by rw [List.mem_singleton.mp q]; exact nice_pv (by decide +kernel) (by decide)) (by rw [List.length_append]; simp; omega)))
    (ga_cons ov_keeps (ge_run (v := .tup ls.reverse) (fun _ => rfl) fun s _ => .inl (tupP s _ (fun y h => el s y (List.mem_reverse.mp h)) (by rw [List.length_reverse]; omega)))
    (ga_cons ov_keeps (fun s G B => ?_) (ga_cons ov_keeps (ge_odd rfl) (ga_cons ov_keeps (fun s G B => ?_) ga_nil))))))
  · rw [wp_call]
    simp only [wp_cons, wp_nil, wp_var, List.getElem?_cons_zero, List.getElem?_cons_succ, Option.some.injEq, exists_eq_left']
    rw [wp_run (show gList [.tup ls] s = some (.loc s.length, s ++ [.lst ls]) from rfl)]
    have := B.lt
    exact ⟨.inl ((pv_lst (k := 0) (B := 4000) (n := 9) (C := 100000) get_end (by omega) (el _) hl (by omega)).mono (by decide) (by decide)), B.app, .app⟩
  · simp only [wp_sl, wp_oSome, wp_oNone, wp_var, wp_c, List.getElem?_cons_zero, List.getElem?_cons_succ, Option.some.injEq, exists_eq_left', D.int.injEq, wp_slT, and_self]
  · simp only [wp_bin, wp_tup, wp_cons, wp_nil, wp_var, wp_c, List.getElem?_cons_zero, List.getElem?_cons_succ, Option.some.injEq, exists_eq_left', wp_addT (a := ls) (b := [.str "own"]) (s9 _ _ (by omega) (by simp)), and_true]
    show 1 ≤ sizeLine
    decide
  · rw [wp_bin, wp_bin]
    simp only [wp_sl, wp_oSome, wp_oNone, wp_tup, wp_cons, wp_nil, wp_call, wp_bin, wp_var, wp_c, List.getElem?_cons_zero, List.getElem?_cons_succ, Option.some.injEq, exists_eq_left', D.int.injEq, wp_slT]
    refine (odd_ok B).mono fun v s1 ⟨p, B3, G3⟩ => ?_
    refine ⟨by show 1 ≤ sizeLine; decide, ?_⟩
    have c1 := cl none (some at_)
    have c2 := cl (some (at_ + 1)) none
    rw [wp_addT (a := cutD ls none (some at_)) (b := [v]) (s9 _ _ (by omega) (by simp))]
    simp only [wp_addI, D.int.injEq, exists_eq_left']
    rw [wp_addT (a := cutD ls none (some at_) ++ [v]) (s9 _ _ (by rw [List.length_append]; simp; omega) c2)]
    refine ⟨?_, B3, G3⟩
    have hlen : (cutD ls none (some at_) ++ [v] ++ cutD ls (some (at_ + 1)) none).length ≤ 19 := by rw [List.length_append, List.length_append]; simp; omega
    rcases p with p | p
    · refine .inl ((pv_tup (k := 3) (B := 4000) (n := 19) (C := 100000) (fun y h => ?_) hlen (by omega)).mono (by decide) (by decide))
      rcases List.mem_append.mp h with q | q
      · rcases List.mem_append.mp q with q | q
        · exact (el _ y (mem_cut q)).mono (by omega) (Nat.le_refl _)
        · rw [List.mem_singleton.mp q]; exact p.mono (by omega) (by omega)
      · exact (el _ y (mem_cut q)).mono (by omega) (Nat.le_refl _)
    · refine .inr ((xv_tup (k := 3) (B := 4000) (n := 19) (C := 100000) (fun y h => ?_) hlen (by omega)).mono (by decide) (by decide))
      rcases List.mem_append.mp h with q | q
      · rcases List.mem_append.mp q with q | q
        · exact (elx _ y (mem_cut q)).mono (by omega) (Nat.le_refl _)
        · rw [List.mem_singleton.mp q]; exact p.mono (by omega) (by omega)
      · exact (elx _ y (mem_cut q)).mono (by omega) (Nat.le_refl _)
  · rw [wp_call]
    simp only [wp_cons, wp_nil, wp_var, wp_c, List.getElem?_cons_zero, List.getElem?_cons_succ, Option.some.injEq, exists_eq_left']
    exact (bent_ok 4 1 _ 2 s b (by omega) hin (by omega) (by omega) B).mono fun v s2 ⟨p, B2, G2⟩ => ⟨ov_mono p (by decide) (by decide), B2, G2⟩
def E1 (b : Nat) (r : DEnv) : Prop := ∃ a0 a2 a3 a4 a5 a6 a7 a8 a9, r = [a0, some (.loc b), a2, a3, a4, a5, a6, a7, a8, a9]
def Bkd (d : D) : Prop := ∃ way strike find drain hold up more down home, d = bk way up more down home strike find drain hold ∧ TXok way ∧ TXok strike ∧ TXok find ∧ TXok drain ∧ TXok hold ∧ bookB d = true
theorem pow30 {r : DEnv} {s : Sto} : eBin gPow (eC (.int 10)) (eC (.int 30)) r s = some (.int (10 ^ 30), s) := wp_app (Q := fun _ _ => True) (by
  rw [wp_bin]
  simp only [wp_c, wp_powI (show CPow 10 30 from ⟨by decide, by decide, by decide⟩)]
  exact ⟨rfl, trivial⟩)
theorem turn_ok (hB : BookOk) (hS : SafeOk) (B : Bag s0 b) : Wp (b_law3 [a0, some (.loc b), a2, a3, a4, a5, a6, a7, a8, a9]) s0 fun o s => ∃ r, o = .nx r ∧ E1 b r ∧ Bag s b ∧ Grow b s0 s := by
  rw [turn_is]
  -- 1
  refine wp_seqN (fun r s => ∃ ds, r = [a0, some (.loc b), a2, some (.tup ds), a4, a5, a6, a7, a8, a9] ∧ Fit ds ∧ Bag s b ∧ Grow b s0 s) ?_ ?_
  · unfold t1
    rw [wp_sAsg, wp_call]
    simp only [wp_cons, wp_nil, wp_var, List.getElem?_cons_zero, List.getElem?_cons_succ, Option.some.injEq, exists_eq_left']
    refine (drawn_ok B).mono fun v s ⟨ds, e, F, B1, G1⟩ => ?_
    subst e
    rw [wp_gtName]
    exact ⟨_, rfl, ds, rfl, F, B1, G1⟩
  rintro r s1 ⟨ds, rfl, F, B1, G1⟩
  obtain ⟨way, strike, find, drain, hold, up, more, down, home, e, k1, k2, k3, k4, k5, hin, hb1, hb2⟩ := fit_bk F
  have h9 := fit_len F
  -- 2
  refine wp_seqN (fun r s => ∃ at_ : Int, r = [a0, some (.loc b), a2, some (.tup ds), some (.int at_), a5, a6, a7, a8, a9] ∧ Bag s b ∧ Grow b s0 s) ?_ ?_
  · unfold t2
    rw [wp_sAsg, wp_call]
    simp only [wp_cons, wp_nil, wp_var, wp_c, List.getElem?_cons_zero, List.getElem?_cons_succ, Option.some.injEq, exists_eq_left']
    refine (take_ok B1 (many := 9) (by omega) (by omega)).mono fun v s ⟨i, e, _, _, B2, G2⟩ => ?_
    subst e
    rw [wp_gtName]
    exact ⟨_, rfl, i, rfl, B2, G1.trans G2⟩
  rintro r s2 ⟨at_, rfl, B2, G2⟩
  -- 3
  refine wp_seqN (fun r s => r = [a0, some (.loc b), a2, some (.tup ds), some (.int at_), some (bk way (10 ^ 30) 0 (10 ^ 30) home strike find drain hold), a6, a7, a8, a9] ∧ s = s2) ?_ ?_
  · unfold t3
    rw [wp_sAsg, wp_bin, wp_bin]
    simp only [wp_sl, wp_oSome, wp_oNone, wp_tup, wp_cons, wp_nil, wp_var, wp_c, List.getElem?_cons_zero, List.getElem?_cons_succ, Option.some.injEq, exists_eq_left', D.int.injEq, wp_slT, wp_run pow30]
    refine ⟨by show 3 ≤ sizeLine; decide, ?_⟩
    have cl : ∀ lo hi, (cutD ds lo hi).length ≤ 9 := fun lo hi => Nat.le_trans cut_len (Nat.le_of_eq h9)
    have s9 : ∀ n m : Nat, n ≤ 12 → m ≤ 9 → n + m ≤ sizeLine := fun n m h h' => Nat.le_trans (by omega) (by decide : 21 ≤ sizeLine)
    have c1 := cl none (some 1)
    rw [wp_addT (a := cutD ds none (some 1)) (b := [.int (10 ^ 30), .int 0, .int (10 ^ 30)]) (s9 _ _ (by omega) (by simp))]
    rw [wp_addT (a := cutD ds none (some 1) ++ [D.int ((10 : Int) ^ 30), D.int 0, D.int ((10 : Int) ^ 30)]) (b := cutD ds (some 4) none) (s9 _ _ (by rw [List.length_append]; simp; omega) (cl _ _))]
    rw [wp_gtName]
    unfold bk at e
    cases e
    exact ⟨_, rfl, rfl, rfl⟩
  rintro r s2' ⟨rfl, rfl⟩
  -- 4
  refine wp_seqN (fun r s => ∃ a6, r = [a0, some (.loc b), a2, some (.tup ds), some (.int at_), some (bk way (10 ^ 30) 0 (10 ^ 30) home strike find drain hold), a6, a7, a8, a9] ∧ Bag s b ∧ Grow b s0 s) ?_ ?_
  · unfold t4
    rw [wp_for]
    rw [wp_run (show iSeq (eTup (aCons (eVar 3) (aCons (eVar 5) aNil))) [a0, some (.loc b), a2, some (.tup ds), some (.int at_), some (bk way (10 ^ 30) 0 (10 ^ 30) home strike find drain hold), a6, a7, a8, a9] s2' = some (([.tup ds, bk way (10 ^ 30) 0 (10 ^ 30) home strike find drain hold], okAll), s2') from rfl)]
    refine wp_forF (fun ds' r s => (∀ d, d ∈ ds' → Bkd d) ∧ (∃ a6, r = [a0, some (.loc b), a2, some (.tup ds), some (.int at_), some (bk way (10 ^ 30) 0 (10 ^ 30) home strike find drain hold), a6, a7, a8, a9]) ∧ Bag s b ∧ Grow b s0 s) (fun _ _ _ _ => rfl) ?_ _ _ _ _ ⟨fun d hd => ?_, ⟨_, rfl⟩, B2, G2⟩ ?_
    · rintro d ds' r s ⟨hd, ⟨a6, rfl⟩, B3, G3⟩
      obtain ⟨way', strike', find', drain', hold', up', more', down', home', e', m1, m2, m3, m4, m5, hb⟩ := hd d (by simp)
      subst e'
      rw [wp_gtName]
      refine (body1 hB hS (s := s) m1 m2 m3 m4 m5 hb).mono fun o s3 ⟨e3, x3⟩ => ?_
      subst e3
      exact ⟨_, .inl rfl, fun d h => hd d (by simp [h]), ⟨_, rfl⟩, x3.bag B3, G3.trans x3.grow⟩
    · simp only [List.mem_cons, List.not_mem_nil, or_false] at hd
      rcases hd with q | q
      · subst q; exact ⟨_, _, _, _, _, _, _, _, _, e, k1, k2, k3, k4, k5, hb1⟩
      · subst q; exact ⟨_, _, _, _, _, _, _, _, _, rfl, k1, k2, k3, k4, k5, hb2 _ (by decide)⟩
    · rintro r s ⟨_, ⟨a6, rfl⟩, B3, G3⟩
      exact ⟨_, rfl, a6, rfl, B3, G3⟩
  rintro r s4 ⟨a6', rfl, B4, G4⟩
  -- 5
  refine wp_seqN (fun r s => ∃ l xs, r = [a0, some (.loc b), a2, some (.tup ds), some (.int at_), some (bk way (10 ^ 30) 0 (10 ^ 30) home strike find drain hold), a6', some (.loc l), a8, a9] ∧ l ≠ b ∧ s[l]? = some (.lst xs) ∧ (∀ d, d ∈ xs → OK b s d) ∧ Bag s b ∧ Grow b s0 s) ?_ ?_
  · unfold t5
    rw [wp_sAsg]
    refine (ge_list ov_keeps (t5_ok hin h9) (by omega) s4 .refl B4).mono fun v s5 ⟨⟨l, xs, e, nbl, hlc, p, len⟩, B5, G5⟩ => ?_
    subst e
    rw [wp_gtName]
    exact ⟨_, rfl, l, xs, rfl, nbl, hlc, p, B5, G4.trans G5⟩
  rintro r s5 ⟨l, xs, rfl, nbl, hlc, p, B5, G5⟩
  unfold t6
  rw [wp_for, wp_iterQ (d := .loc l) (xs := xs) (by simp only [seqOf, hlc]) rfl]
  refine (loop_ok (E := E1 b) B5 hlc nbl p ⟨_, _, _, _, _, _, _, _, _, rfl⟩ fun d r s6 G6 V e => ?_).mono fun o s6 ⟨r, e, e1, B6, G6⟩ => ?_
  · obtain ⟨a0, a2, a3, a4, a5, a6, a7, a8, a9, rfl⟩ := e
    exact (body2 hB (s := s6) (b := b) (d := d) V).mono fun o s3 ⟨⟨z, e⟩, x⟩ => ⟨⟨_, e, _, _, _, _, _, _, _, _, _, rfl⟩, x⟩
  · exact ⟨_, e, e1, B6, G5.trans G6⟩
end
theorem win_of (hB : BookOk) (hS : SafeOk) : Wins m_law := by
  intro ns hl _
  have go : Wp (m_law [.rol (ns.map .int)]) [] fun v s => v = .bl true := by
    unfold m_law
    rw [wp_runB]
    show Wp (sSeq _ _ [some (.rol (ns.map .int)), none, none, none, none, none, none, none, none, none]) [] _
    rw [wp_seq, wp_sAsg]
    simp only [wp_call, wp_cons, wp_nil, wp_var, List.getElem?_cons_zero, Option.some.injEq, exists_eq_left']
    rw [bag_is]
    refine (bag_ok ns hl).mono fun v s ⟨b, e, B⟩ => ?_
    subst e
    rw [wp_gtName]
    show Wp (sSeq _ _ [some (.rol (ns.map .int)), some (.loc b), none, none, none, none, none, none, none, none]) _ _
    rw [wp_seq, wp_for]
    rw [wp_run (show iRange (aCons (eC (.int 12)) aNil) [some (.rol (ns.map .int)), some (.loc b), none, none, none, none, none, none, none, none] s = some ((rngL 0 12, okAll), s) from rfl)]
    refine wp_forF (fun ds r s => E1 b r ∧ Bag s b) (fun _ _ _ _ => rfl) ?_ _ _ _ _ ⟨⟨_, _, _, _, _, _, _, _, _, rfl⟩, B⟩ ?_
    · rintro d ds r s ⟨⟨a0, a2, a3, a4, a5, a6, a7, a8, a9, rfl⟩, B2⟩
      rw [wp_gtName]
      exact (turn_ok hB hS B2).mono fun o s3 ⟨r, e, e1, B3, G3⟩ => ⟨r, .inl e, e1, B3⟩
    · rintro r s ⟨_, _⟩
      simp only
      rw [wp_sRet, wp_c]
  obtain ⟨v, s, e, h⟩ := go
  subst h
  exact ⟨s, e⟩
end Fe.k28
namespace Fe.k28
open PySem PySem.Spec PyProof.Rows L2 Fe
/-! ## the program's is_book -/
theorem pint_ok {st : Sto} {d : D} {t : String} (h : tyName st d = some t) : m_is_integer [d] st = some (.bl (isK t "int" && !isK t "bool"), st) := int_ok h
theorem isintB {st : Sto} {x : D} {t : String} (ht : tyName st x = some t) : (isK t "int" && !isK t "bool") = (match x with | .int _ => true | _ => false) := by
  cases x with
  | loc l => simp only [tyName] at ht; split at ht <;> cases ht <;> rfl
  | _ => cases ht <;> rfl
theorem any_item {x : D} {ws : List Str} : (ws.any fun z => eqSD z x) = itemB x (some ws) := by
  cases x with
  | str y => exact any_in
  | _ => simp [eqSD, itemB]
theorem run_inP {neg : Bool} {d : D} {nms : List Str} {t : String} {st : Sto} (h : tyName st d = some t) : gInA neg d (.ptp (nms.map .str)) st = some (.bl (neg != itemB d (some nms)), st) := by
  unfold gInA or2 gIn
  simp only [seqOf, Option.bind_some, strs_map, h, any_item]
def lenB (n : Int) : D → Bool
  | .tup xs => decide ((xs.length : Int) = n)
  | .ptp xs => decide ((xs.length : Int) = n)
  | _ => false
theorem row_ok {st : Sto} {d : D} {t : String} {n : Int} (h : tyName st d = some t) : Wp (m_is_row [.int n, d]) st fun v s => v = .bl (lenB n d) ∧ s = st := by
  unfold m_is_row
  rw [wp_runB]
  show Wp (sRet _ [some (.int n), some d]) st _
  rw [wp_sRet, wp_and]
  simp only [wp_call, wp_cons, wp_nil, wp_var, wp_c, List.getElem?_cons_zero, List.getElem?_cons_succ, Option.some.injEq, exists_eq_left', wp_isiV h (show "tuple" ∈ ["int", "bool", "str", "tuple", "list", "dict"] by decide), D.bl.injEq, ty_tup h]
  cases d with
  | tup xs =>
    simp only [if_true, wp_bin, wp_call, wp_cons, wp_nil, wp_var, List.getElem?_cons_zero, List.getElem?_cons_succ, Option.some.injEq, exists_eq_left', wp_lenT, wp_eqI, lenB, and_self]
  | ptp xs =>
    simp only [if_true, wp_bin, wp_call, wp_cons, wp_nil, wp_var, List.getElem?_cons_zero, List.getElem?_cons_succ, Option.some.injEq, exists_eq_left', wp_lenQ (show seqOf st (D.ptp xs) = some xs from rfl), wp_eqI, lenB, and_self]
  | _ =>
    simp only [Bool.false_eq_true, if_false, lenB, and_self]
def fst_nat : Fx := eCall gAll (aCons (eLc (iSeq (eSl gSl (eVar 0) (oSome (eC (.int 1))) (oSome (eC (.int 5))))) (gtName 1) tYesF (eAnd (eCall m_is_integer (aCons (eVar 1) aNil)) (eBin gGe (eVar 1) (eC (.int 0)))) [1]) aNil)
def snd_in : Fx := eCall gAll (aCons (eLc (iZip2 (aCons (eSl gSl (eVar 0) (oSome (eC (.int 5))) oNone) (aCons (eTup (aCons (eC k_STRIKES) (aCons (eC k_FINDS) (aCons (eC k_DRAINS) (aCons (eC k_HOLDS) aNil))))) aNil))) (gtTup 2 (gsCons (gtName 2) (gsCons (gtName 3) gsNil))) tYesF (eBin (gInA false) (eVar 2) (eVar 3)) [2, 3]) aNil)
theorem pbook_is : m_is_book = runB 4 (sSeq (sIf (tOrF (tNotF (asB (eCall m_is_row (aCons (eC (.int 9)) (aCons (eVar 0) aNil))))) (asB (eBin (gInA true) (eBin gIx (eVar 0) (eC (.int 0))) (eC k_WAYS)))) (sRet (eC (.bl false))) sNil)
    (sSeq (sIf (tNotF (asB fst_nat)) (sRet (eC (.bl false))) sNil) (sRet snd_in))) := rfl
theorem nat_run {st : Sto} {x d : D} {t : String} (ht : tyName st x = some t) : eAnd (eCall m_is_integer (aCons (eVar 1) aNil)) (eBin gGe (eVar 1) (eC (.int 0))) [some d, some x, none, none] st = some (.bl (itemB x none), st) := by
  refine wp_app (Q := fun _ _ => True) ?_
  rw [wp_and]
  simp only [wp_call, wp_cons, wp_nil, wp_var, List.getElem?_cons_zero, List.getElem?_cons_succ, Option.some.injEq, exists_eq_left', wp_run (pint_ok ht), isintB ht, D.bl.injEq]
  cases x with
  | int i =>
    simp only [if_true, wp_bin, wp_var, wp_c, List.getElem?_cons_zero, List.getElem?_cons_succ, Option.some.injEq, exists_eq_left', wp_geI, itemB]
    exact ⟨trivial, trivial⟩
  | _ =>
    simp only [Bool.false_eq_true, if_false, itemB]
    exact ⟨trivial, trivial⟩
section
variable {st : Sto} {d x0 x1 x2 x3 x4 x5 x6 x7 x8 : D}
theorem nine {xs : List D} (h : xs.length = 9) : ∃ x0 x1 x2 x3 x4 x5 x6 x7 x8, xs = [x0, x1, x2, x3, x4, x5, x6, x7, x8] := by
  match xs, h with
  | [x0, x1, x2, x3, x4, x5, x6, x7, x8], _ => exact ⟨_, _, _, _, _, _, _, _, _, rfl⟩
theorem fst_ok (hd : d = .tup [x0, x1, x2, x3, x4, x5, x6, x7, x8] ∨ d = .ptp [x0, x1, x2, x3, x4, x5, x6, x7, x8]) (hy : ∀ y, y ∈ [x0, x1, x2, x3, x4, x5, x6, x7, x8] → ∃ t, tyName st y = some t) :
    Wp (fst_nat [some d, none, none, none]) st fun v s => v = .bl (([x1, x2, x3, x4].map fun x => itemB x none).all id) ∧ Ext st s := by
  unfold fst_nat
  rw [wp_call, wp_cons]
  have hi : iSeq (eSl gSl (eVar 0) (oSome (eC (.int 1))) (oSome (eC (.int 5)))) [some d, none, none, none] st = some (([x1, x2, x3, x4], okAll), st) := by
    rcases hd with e | e <;> subst e <;> rfl
  rw [wp_lcP (ds := [x1, x2, x3, x4]) (ok := okAll) (fun _ => true) (fun x => .bl (itemB x none)) hi rfl (show 4 ≤ sizeLine by decide) fun y hq => by
    obtain ⟨t, ht⟩ := hy y (by simp only [List.mem_cons, List.not_mem_nil, or_false] at hq ⊢; rcases hq with e | e | e | e <;> simp [e])
    exact ⟨[some d, some y, none, none], rfl, rfl, fun _ => nat_run ht⟩]
  rw [wp_nil, wp_all (ks := [x1, x2, x3, x4].map fun x => itemB x none) (by rw [List.filter_eq_self.mpr (fun _ _ => rfl), List.map_map]; exact get_end)]
  exact ⟨rfl, Ext.refl.app⟩
def WSS : List (List Str) := [["always", "never", "own"], ["any", "live"], ["ahead", "behind"], ["address", "index"]]
theorem snd_ok (hd : d = .tup [x0, x1, x2, x3, x4, x5, x6, x7, x8] ∨ d = .ptp [x0, x1, x2, x3, x4, x5, x6, x7, x8]) (hy : ∀ y, y ∈ [x0, x1, x2, x3, x4, x5, x6, x7, x8] → ∃ t, tyName st y = some t) :
    Wp (snd_in [some d, none, none, none]) st fun v s => v = .bl ((([x5, x6, x7, x8].zip WSS).map fun p => itemB p.1 (some p.2)).all id) ∧ Ext st s := by
  unfold snd_in
  rw [wp_call, wp_cons]
  have hi : iZip2 (aCons (eSl gSl (eVar 0) (oSome (eC (.int 5))) oNone) (aCons (eTup (aCons (eC k_STRIKES) (aCons (eC k_FINDS) (aCons (eC k_DRAINS) (aCons (eC k_HOLDS) aNil))))) aNil)) [some d, none, none, none] st
      = some ((([x5, x6, x7, x8].zip WSS).map fun p => .tup [p.1, .ptp (p.2.map .str)], okAll), st) := by
    rcases hd with e | e <;> subst e <;> rfl
  rw [wp_lcP (ds := ([x5, x6, x7, x8].zip WSS).map fun p => .tup [p.1, .ptp (p.2.map .str)]) (ok := okAll) (fun _ => true) (fun c => match c with | .tup [x, .ptp ws] => .bl (itemB x (strsOf ws)) | _ => .non) hi rfl (show 4 ≤ sizeLine by decide) fun c hc => by
    obtain ⟨⟨x, ws⟩, hp, rfl⟩ := List.mem_map.mp hc
    obtain ⟨t, ht⟩ := hy x (by have q := (List.of_mem_zip hp).1; simp only [List.mem_cons, List.not_mem_nil, or_false] at q ⊢; rcases q with e | e | e | e <;> simp [e])
    refine ⟨[some d, none, some x, some (.ptp (ws.map .str))], rfl, rfl, fun _ => ?_⟩
    show bnd (fun s => some (x, s)) (fun x => bnd (fun s => some (D.ptp (ws.map .str), s)) fun y => gInA false x y) st = _
    unfold bnd
    simp only [run_inP ht, strs_map, Bool.false_bne]]
  rw [wp_nil, wp_all (ks := ([x5, x6, x7, x8].zip WSS).map fun p => itemB p.1 (some p.2)) (by rw [List.filter_eq_self.mpr (fun _ _ => rfl), List.map_map, List.map_map]; simp only [Function.comp_def, strs_map]; exact get_end)]
  exact ⟨rfl, Ext.refl.app⟩
end
theorem wp_eOr {st : Sto} {f g : Fx} {r : DEnv} {Q} : Wp (eOr f g r) st Q ↔ Wp (f r) st fun d s => ∃ k, d = .bl k ∧ if k = true then Q (.bl true) s else Wp (g r) s Q := by
  unfold eOr
  rw [wp_bnd]
  constructor
  · refine fun h => h.mono fun x s h => ?_
    cases x with
    | bl k =>
      cases k with
      | true => exact ⟨true, rfl, wp_ret.mp h⟩
      | false => exact ⟨false, rfl, h⟩
    | _ => obtain ⟨_, _, h, _⟩ := h; cases h
  · refine fun h => h.mono fun x s ⟨k, e, h⟩ => ?_
    subst e
    cases k with
    | true => exact wp_ret.mpr h
    | false => exact h
theorem book_ok : BookOk := by
  intro st d t h hx _
  rw [pbook_is, wp_runB]
  show Wp (sSeq _ _ [some d, none, none, none]) st _
  rw [wp_seq, wp_sIf, wp_orF, wp_not, wp_asB, wp_call]
  simp only [wp_cons, wp_nil, wp_c, wp_var, List.getElem?_cons_zero, Option.some.injEq, exists_eq_left']
  refine (row_ok h).mono fun v s ⟨e, e2⟩ => ?_
  subst e e2
  refine ⟨_, rfl, ?_⟩
  by_cases hN : ∃ xs, (d = .tup xs ∨ d = .ptp xs) ∧ xs.length = 9
  · obtain ⟨xs, hd, h9⟩ := hN
    have hy := (hx xs hd).2
    have eb : lenB 9 d = true := by rcases hd with e | e <;> subst e <;> simp [lenB, h9]
    have fin : bookB d = (xs.zip MEN).all (fun p => itemB p.1 p.2) := by rcases hd with e | e <;> subst e <;> simp only [bookB, decide_eq_true h9, Bool.true_and]
    rw [fin, eb]
    obtain ⟨x0, x1, x2, x3, x4, x5, x6, x7, x8, rfl⟩ := nine h9
    obtain ⟨t0, ht0⟩ := hy x0 (by simp)
    have e1 : gIx d (.int 0) s = some (x0, s) := by rcases hd with e | e <;> subst e <;> rfl
    have e2 := run_inP (neg := true) (nms := ["fresh", "kept"]) ht0
    simp only [Bool.not_true, Bool.false_eq_true, if_false, wp_asB, wp_bin, wp_var, wp_c, List.getElem?_cons_zero, Option.some.injEq, exists_eq_left', wp_run e1]
    rw [wp_run (show gInA true x0 k_WAYS s = _ from e2)]
    simp only [D.bl.injEq, exists_eq_left', Bool.true_bne]
    have tot : ([x0, x1, x2, x3, x4, x5, x6, x7, x8].zip MEN).all (fun p => itemB p.1 p.2) = (itemB x0 (some ["fresh", "kept"]) && (([x1, x2, x3, x4].map fun x => itemB x none).all id && (([x5, x6, x7, x8].zip WSS).map fun p => itemB p.1 (some p.2)).all id)) := by
      simp only [MEN, WSS, List.zip_cons_cons, List.zip_nil_right, List.all_cons, List.all_nil, List.map_cons, List.map_nil, id, Bool.and_true, Bool.and_assoc]
    rw [tot]
    cases c0 : itemB x0 (some ["fresh", "kept"]) with
    | false =>
      simp only [Bool.not_false, if_true, wp_sRet, wp_c, Bool.false_and]
      exact ⟨trivial, .refl⟩
    | true =>
      simp only [Bool.not_true, Bool.false_eq_true, if_false, wp_sNil, Bool.true_and]
      rw [wp_seq, wp_sIf, wp_not, wp_asB]
      refine (fst_ok hd hy).mono fun v s ⟨e, x⟩ => ⟨_, e, ?_⟩
      cases c1 : ([x1, x2, x3, x4].map fun x => itemB x none).all id with
      | false =>
        simp only [Bool.not_false, if_true, wp_sRet, wp_c, Bool.false_and]
        exact ⟨trivial, x⟩
      | true =>
        simp only [Bool.not_true, Bool.false_eq_true, if_false, wp_sNil, Bool.true_and]
        rw [wp_sRet]
        refine (snd_ok hd fun y hq => let ⟨t, ht⟩ := hy y hq; ⟨t, ty_ext x ht⟩).mono fun v s2 ⟨e, x2⟩ => ?_
        exact ⟨e, x.trans x2⟩
  · have eb : lenB 9 d = false := by
      cases d with
      | tup xs => exact decide_eq_false fun z => hN ⟨xs, .inl rfl, by omega⟩
      | ptp xs => exact decide_eq_false fun z => hN ⟨xs, .inr rfl, by omega⟩
      | _ => rfl
    have fin : bookB d = false := by
      cases d with
      | tup xs => simp only [bookB, decide_eq_false fun z => hN ⟨xs, .inl rfl, z⟩, Bool.false_and]
      | ptp xs => simp only [bookB, decide_eq_false fun z => hN ⟨xs, .inr rfl, z⟩, Bool.false_and]
      | _ => rfl
    rw [fin, eb]
    simp only [Bool.not_false, if_true, wp_sRet, wp_c]
    exact ⟨trivial, .refl⟩
end Fe.k28
namespace Fe.k28
open PySem PySem.Spec PyProof.Rows L2 Fe
theorem psafe_ok {st : Sto} {way strike find drain hold : Str} {up more down home : Int} (h1 : TXok way) (h2 : TXok strike) (h3 : TXok find) (h4 : TXok drain) (h5 : TXok hold) :
    Wp (m_is_safe [bk way up more down home strike find drain hold]) st fun v s => v = .bl (safeB way up more down home strike find drain hold) ∧ s = st := by
  unfold m_is_safe
  rw [wp_runB]
  show Wp (sSeq _ _ [some (bk way up more down home strike find drain hold), none, none, none, none, none, none, none, none, none]) st _
  rw [wp_seq, wp_sAsg]
  simp only [wp_var, List.getElem?_cons_zero, Option.some.injEq, exists_eq_left']
  rw [wp_run (show gtTup 9 (gsCons (gtName 1) (gsCons (gtName 2) (gsCons (gtName 3) (gsCons (gtName 4) (gsCons (gtName 5) (gsCons (gtName 6) (gsCons (gtName 7) (gsCons (gtName 8) (gsCons (gtName 9) gsNil))))))))) (bk way up more down home strike find drain hold) [some (bk way up more down home strike find drain hold), none, none, none, none, none, none, none, none, none] st
    = some ([some (bk way up more down home strike find drain hold), some (.str way), some (.int up), some (.int more), some (.int down), some (.int home), some (.str strike), some (.str find), some (.str drain), some (.str hold)], st) from rfl)]
  have fr := ok_w "fresh" (by simp)
  have ah := ok_w "ahead" (by simp)
  have ne := ok_w "never" (by simp)
  have an := ok_w "any" (by simp)
  have li := ok_w "live" (by simp)
  have al := ok_w "always" (by simp)
  have ix := ok_w "index" (by simp)
  rw [wp_seq, wp_sIf]
  simp only [wp_orF, wp_asB, wp_bin, wp_var, wp_c, List.getElem?_cons_zero, List.getElem?_cons_succ, Option.some.injEq, exists_eq_left', wp_neI, wp_ltI, D.bl.injEq]
  by_cases c1 : home = 1
  · rw [decide_eq_true c1]
    simp only [Bool.not_true, Bool.false_eq_true, if_false]
    by_cases c2 : up = down
    · rw [decide_eq_true c2]
      simp only [Bool.not_true, Bool.false_eq_true, if_false]
      by_cases c3 : up < 1
      · rw [decide_eq_true c3]
        simp only [if_true, wp_sRet, wp_c]
        exact ⟨by unfold safeB; rw [if_pos (.inr (.inr c3))], trivial⟩
      · rw [decide_eq_false c3]
        have e1 : ¬ (home ≠ 1 ∨ up ≠ down ∨ up < 1) := by simp [c1, c2]; rw [← c2]; omega
        simp only [Bool.false_eq_true, if_false, wp_sNil]
        rw [wp_seq, wp_sIf]
        simp only [wp_asB, wp_bin, wp_var, wp_c, List.getElem?_cons_zero, List.getElem?_cons_succ, Option.some.injEq, exists_eq_left', wp_eqS' h1 fr, D.bl.injEq]
        by_cases c4 : way = "fresh"
        · rw [decide_eq_true c4]
          simp only [if_true, wp_sRet, wp_c]
          exact ⟨by unfold safeB; rw [if_neg e1, if_pos c4], trivial⟩
        · rw [decide_eq_false c4]
          simp only [Bool.false_eq_true, if_false, wp_sNil]
          rw [wp_seq, wp_sIf]
          simp only [wp_orF, wp_asB, wp_bin, wp_var, wp_c, List.getElem?_cons_zero, List.getElem?_cons_succ, Option.some.injEq, exists_eq_left', wp_neI, wp_neS' h5 ix, D.bl.injEq]
          by_cases c5 : more ≠ 0 ∨ hold ≠ "index"
          · have q : (if (!decide (more = 0)) = true then true else !decide (hold = "index")) = true := by
              rcases c5 with c | c
              · simp [c]
              · simp [c]
            have fin : safeB way up more down home strike find drain hold = false := by unfold safeB; rw [if_neg e1, if_neg c4, if_pos c5]
            by_cases c6 : more = 0
            · have c7 : hold ≠ "index" := c5.resolve_left (fun z => z c6)
              rw [decide_eq_true c6, decide_eq_false c7]
              simp only [Bool.not_true, Bool.not_false, Bool.false_eq_true, if_false, if_true, wp_sRet, wp_c, fin, and_self]
            · rw [decide_eq_false c6]
              simp only [Bool.not_false, if_true, wp_sRet, wp_c, fin, and_self]
          · have c6 : more = 0 := Classical.byContradiction fun z => c5 (.inl z)
            have c7 : hold = "index" := Classical.byContradiction fun z => c5 (.inr z)
            rw [decide_eq_true c6, decide_eq_true c7]
            simp only [Bool.not_true, Bool.false_eq_true, if_false, wp_sNil]
            have fin : safeB way up more down home strike find drain hold = if drain = "ahead" then !(decide (strike = "never") && decide (find = "any")) else decide (find = "live") && !decide (strike = "always") := by unfold safeB; rw [if_neg e1, if_neg c4, if_neg c5]
            rw [fin]
            rw [wp_seq, wp_sIf]
            simp only [wp_asB, wp_bin, wp_var, wp_c, List.getElem?_cons_zero, List.getElem?_cons_succ, Option.some.injEq, exists_eq_left', wp_eqS' h4 ah, D.bl.injEq]
            by_cases c8 : drain = "ahead"
            · rw [decide_eq_true c8, if_pos c8]
              simp only [if_true, wp_sRet, wp_eOr, wp_bin, wp_var, wp_c, List.getElem?_cons_zero, List.getElem?_cons_succ, Option.some.injEq, exists_eq_left', wp_neS' h2 ne, wp_neS' h3 an, D.bl.injEq]
              cases decide (strike = "never") <;> simp
            · rw [decide_eq_false c8, if_neg c8]
              simp only [Bool.false_eq_true, if_false, wp_sNil, wp_sRet, wp_and, wp_bin, wp_var, wp_c, List.getElem?_cons_zero, List.getElem?_cons_succ, Option.some.injEq, exists_eq_left', wp_eqS' h3 li, wp_neS' h2 al, D.bl.injEq]
              cases decide (find = "live") <;> simp
    · rw [decide_eq_false c2]
      simp only [Bool.not_false, if_true, wp_sRet, wp_c]
      exact ⟨by unfold safeB; rw [if_pos (.inr (.inl c2))], trivial⟩
  · rw [decide_eq_false c1]
    simp only [Bool.not_false, if_true, wp_sRet, wp_c]
    exact ⟨by unfold safeB; rw [if_pos (.inl c1)], trivial⟩
theorem safe_ok : SafeOk := fun st way strike find drain hold up more down home h1 h2 h3 h4 h5 => (psafe_ok h1 h2 h3 h4 h5).mono fun v s ⟨e, e2⟩ => ⟨e, by rw [e2]; exact .refl⟩
theorem win_law : Wins m_law := win_of book_ok safe_ok
end Fe.k28
open PySem PySem.W PyProof.Rows in
set_option maxRecDepth 100000 in
set_option maxHeartbeats 0 in
theorem PySem.Challenge.cw_besidealone_k28_books_and_what_makes_the_holds : PySem.Challenge.rw_besidealone_k28_books_and_what_makes_the.Holds := by
  w_on; o_law; k_head; (case hw => w_witness2)
  k_fill
  refine Fe.walk_g (l := PySem.Challenge.rw_besidealone_k28_books_and_what_makes_the) (k := 9) (x := "script") rfl rfl ⟨rfl, by decide, by decide⟩ (fun w h Y => PySem.W.kIn_of Y) ?F Fe.k28.win_law (by kernel_rfl)
  case F =>
    intro w mg fa h KX G hmg
    refine' Fe.k28.all_mk KX G hmg ?a0 ?l0 ?c0 ?k0 ?a1 ?l1 ?c1 ?k1 ?a2 ?l2 ?c2 ?k2 ?a3 ?l3 ?c3 ?k3 ?a4 ?l4 ?c4 ?k4 ?a5 ?l5 ?c5 ?k5 ?a6 ?l6 ?c6 ?k6 ?a7 ?l7 ?c7 ?k7 ?a8 ?l8 ?c8 ?k8 ?a9 ?l9 ?c9 ?k9 ?a10 ?l10 ?c10 ?k10 ?a11 ?l11 ?c11 ?k11 ?a12 ?l12 ?c12 ?k12 ?a13 ?l13 ?c13 ?k13 ?a14 ?l14 ?c14 ?k14 ?a15 ?l15 ?c15 ?k15 ?e_DRAINS ?l_DRAINS_0 ?e_FINDS ?l_FINDS_0 ?e_HOLDS ?l_HOLDS_0 ?e_STRIKES ?l_STRIKES_0 ?e_WAYS ?l_WAYS_0 ?z_abs ?z_all ?z_bool ?z_dict ?z_int ?z_isinstance ?z_len ?z_list ?z_range ?z_repr ?z_str ?z_tuple ?z_zip
    (case a0 => k_is)
    (case l0 => k_is)
    (case c0 => k_is)
    (case k0 => k_is)
    (case a1 => k_is)
    (case l1 => k_is)
    (case c1 => k_is)
    (case k1 => k_is)
    (case a2 => k_is)
    (case l2 => k_is)
    (case c2 => k_is)
    (case k2 => k_is)
    (case a3 => k_is)
    (case l3 => k_is)
    (case c3 => k_is)
    (case k3 => k_is)
    (case a4 => k_is)
    (case l4 => k_is)
    (case c4 => k_is)
    (case k4 => k_is)
    (case a5 => k_is)
    (case l5 => k_is)
    (case c5 => k_is)
    (case k5 => k_is)
    (case a6 => k_is)
    (case l6 => k_is)
    (case c6 => k_is)
    (case k6 => k_is)
    (case a7 => k_is)
    (case l7 => k_is)
    (case c7 => k_is)
    (case k7 => k_is)
    (case a8 => k_is)
    (case l8 => k_is)
    (case c8 => k_is)
    (case k8 => k_is)
    (case a9 => k_is)
    (case l9 => k_is)
    (case c9 => k_is)
    (case k9 => k_is)
    (case a10 => k_is)
    (case l10 => k_is)
    (case c10 => k_is)
    (case k10 => k_is)
    (case a11 => k_is)
    (case l11 => k_is)
    (case c11 => k_is)
    (case k11 => k_is)
    (case a12 => k_is)
    (case l12 => k_is)
    (case c12 => k_is)
    (case k12 => k_is)
    (case a13 => k_is)
    (case l13 => k_is)
    (case c13 => k_is)
    (case k13 => k_is)
    (case a14 => k_is)
    (case l14 => k_is)
    (case c14 => k_is)
    (case k14 => k_is)
    (case a15 => k_is)
    (case l15 => k_is)
    (case c15 => k_is)
    (case k15 => k_is)
    (case e_DRAINS => k_is)
    (case l_DRAINS_0 => k_is)
    (case e_FINDS => k_is)
    (case l_FINDS_0 => k_is)
    (case e_HOLDS => k_is)
    (case l_HOLDS_0 => k_is)
    (case e_STRIKES => k_is)
    (case l_STRIKES_0 => k_is)
    (case e_WAYS => k_is)
    (case l_WAYS_0 => k_is)
    (case z_abs => k_is)
    (case z_all => k_is)
    (case z_bool => k_is)
    (case z_dict => k_is)
    (case z_int => k_is)
    (case z_isinstance => k_is)
    (case z_len => k_is)
    (case z_list => k_is)
    (case z_range => k_is)
    (case z_repr => k_is)
    (case z_str => k_is)
    (case z_tuple => k_is)
    (case z_zip => k_is)
